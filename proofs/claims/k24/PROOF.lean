import PyProof.Rows.All
import Wide.All
import OpenK.AllK
import Wide.FinOn
import HandS.ForMost
import HandS.ForExc
import HandS.IsInst
import HandS.MakeKwOnly
import HandS.ClsMeth
import HandS.Conv
import HandS.Codes
import HandS.Walk
import HandS.Style
import HandS.Flow
import HandS.Wide
import HandS.OwnEq
import HandS.OwnIter
import HandS.IterVal
import KE.KOwnIter
import PyProof.FactsAll.tuple_iterator_1
import HandS.Deep
import HandS.SortRule
import KE.GoesMore
import KE.GoesEnum
import KE.KLam
import KE.DataMinKey
import HandS.Base
import HandS.Call
import HandS.List
import HandS.Comp
import HandS.Lambda
import HandS.Nested
import HandS.Keys
import HandS.SortInts
import PyProof.NeKinds
import HandS.SetFor
import HandS.Strs
import HandS.TupSets
import KE.SortData
import HandS.Gcd
import KE.KMathGC
import HandS.Sort
import PyProof.AutoSeq1
import KE.KTurns
import HandS.TupLe
import KE.KSortTup
import HandS.Defaults
import HandS.Zip
import HandS.TryOnly
import HandS.TupAny
import KE.DataFind
import PyProof.SumWalkG
import KE.DataMinMax
import HandS.TupMul
import KE.GoesZip
import HandS.Iter
import HandS.Dict
import HandS.More
import HandS.DictComp
import HandS.DictEq
import KE.KDictList
import HandS.SetKeys
import HandS.DictTup
import PyProof.DictMoreH
import KE.KeyNested
import HandS.TupLen
import KE.KStateDown
import HandS.Head0
import HandS.Head1
import HandS.Head2
import HandS.HeadHook4
import HandS.HeadWalk
import KE.KNestM
import HandS.EndTab
import HandS.Rev
import HandS.Small
import HandS.ListItems
import HandS.Head3
import HandS.HeadEnd
import PySem.Challenge.RW_heaprows_k24_whole_takings
set_option Elab.async false
set_option maxRecDepth 100000
set_option Elab.async false
set_option linter.all false
set_option maxRecDepth 100000
set_option maxHeartbeats 2000000
namespace Tw
open PySem PySem.Spec PyProof.Rows L2

/-! own rules: an instance with dunder methods -/
/-- a dunder method of the class at C, its def at f -/
structure Dn (K : PySem.W.Frag) (C : Addr) (m : Str) (f : Addr) : Prop where
  at_ : PySem.W.findIn K (.ref C) m = some (some (.ref f))
  fn : PySem.W.isFn K (.ref f) = true
  fi : PySem.W.fnIn K f = true


section
variable {X : Cx} {CX : CXT} {k n : Nat} {f C : Addr} {fd : FuncData} {ps : List Str} {sp : Sp} {E : XK} {o e : Expr} {pos : Pos} {ta tb : TE} {A1 : Around}
  {pins : List (Addr × Obj)} {σ : L2.St} {H : Hp} {s : Shared} {Q : VK}
theorem Sub.env0 (sb : Sub X n A1) (I : Inv X pins σ H s) : Env0 X.prog X.w X.K X.mg X.base A1 X.stack s H := by
  have q := I.env0
  exact ⟨by rw [sb.fr]; exact q.frames, q.mod, q.bs, q.bsz, q.funs, q.frf, q.hok, q.bare⟩
theorem run_sub {us : List Value} {vs : List V} (F : FnOk X.prog X.w X.K X.mg X.base CX k f fd ps sp) (sb : Sub X k A1) (hb : Binds X.K fd ps []) (hx : Passes CX X E) (I : Inv X pins σ H s) (r : Vals vs us) (h : sp vs H Q E) :
    wpAny (model X.prog X.w) A1 (call (.ref f) us) (EP X pins σ Q) X.xe s := by
  have hl : us.length = ps.length := by rw [← r.length]; exact F.len _ _ _ _ h
  have hb1 : BindsTo s fd ⟨us, []⟩ (ps.zip us) := by
    have z := hb s us I.kIn (by rw [List.append_nil]; exact hl)
    rw [List.append_nil] at z
    exact z
  refine wpAny_call (codeAny_mono (F.run A1 X.stack s H ⟨us, []⟩ us vs Q E sb.room (Sub.env0 sb I) hb1 r h) fun z s' hq => ?_)
  match z, hq with
  | .error e, hq => exact hx pins σ H s e s' I hq
  | .ok (.ret u), hq => exact I.after hq
  | .ok .next, hq => exact False.elim hq
  | .ok .brk, hq => exact False.elim hq
  | .ok .cont, hq => exact False.elim hq
theorem relR (a : Addr) : RelV (V.ref a) (Value.ref a) := rfl
theorem relB (b : Bool) : RelV (V.bl b) (Value.bool b) := rfl
theorem relI (i : Int) (t : Tok) : RelV (V.int i) (Value.int i t) := ⟨t, rfl⟩
/-- o[e] by the class's own def -/
def tGi (C : Addr) (sp : Sp) (E : XK) (ta tb : TE) : TE := fun σ H Q => ta σ H fun x H1 => tb σ H1 fun y H2 =>
  ∃ a dx fs, x = .ref a ∧ H2 a = some (.ins C dx fs) ∧ sp [.ref a, y] H2 Q E
theorem pe_gi (hd : Dn X.K C "__getitem__" f) (F : FnOk X.prog X.w X.K X.mg X.base CX k f fd ps sp) (hr : Room (k + 1) X.A) (hb : Binds X.K fd ps []) (hx : Passes CX X E) (ho : PE X o ta) (he : PE X e tb)
    (hs : ∀ v u, subscripted e true v u = runValue (.builtin "lifetime.subscript" ⟨[v, u], []⟩) := by intro _ _; with_unfolding_all rfl) :
    PE X (.Subscript o e pos) (tGi C sp E ta tb) := by
  refine ⟨fun pins s σ H Q I h => ?_⟩
  refine Subscript_ (binT ho he (R := fun x y H2 => ∃ a dx fs, x = .ref a ∧ H2 a = some (.ins C dx fs) ∧ sp [.ref a, y] H2 Q E) I h fun v u s2 x y H2 I2 rx ry ⟨a, dx, fs, ex, ha, q⟩ => ?_)
  subst ex
  obtain rfl : v = Value.ref a := rx
  obtain ⟨mA, O, rr, _, _, _⟩ := ins_get I2.hok ha
  obtain ⟨od, J, hl⟩ := O.look
  obtain ⟨m0, hF⟩ := I2.fr
  exact PySem.W.sub_K hF I2.ok.mod.kin J hd.at_ hd.fi hd.fn (run_sub F (Sub.in1 ⟨hr, rfl⟩) hb hx I2 (.cons (relR a) (.cons ry .nil)) q) (hs _ _)
/-- e in o, by the class's own def -/
def rIn (C : Addr) (sp : Sp) (E : XK) (neg : Bool) : R2 := fun x y H Q =>
  ∃ a dx fs, y = .ref a ∧ H a = some (.ins C dx fs) ∧ sp [.ref a, x] H (fun v H' => ∃ b, v = .bl b ∧ Q (.bl (if neg then !b else b)) H') E
theorem op_in_own (hd : Dn X.K C "__contains__" f) (F : FnOk X.prog X.w X.K X.mg X.base CX k f fd ps sp) (hr : Room k X.A) (hb : Binds X.K fd ps []) (hx : Passes CX X E) : OpR X (compareOp .In) (rIn C sp E false) := by
  intro pins s σ H x y v u Q I rx ry ⟨a, dx, fs, ey, ha, q⟩
  subst ey
  obtain rfl : u = Value.ref a := ry
  obtain ⟨mA, O, rr, _, _, _⟩ := ins_get I.hok ha
  obtain ⟨od, J, hl⟩ := O.look
  obtain ⟨m0, hF⟩ := I.fr
  refine PySem.W.in_K hF I.ok.mod.kin J hd.at_ hd.fn (thn (run_sub F ⟨hr, rfl⟩ hb hx I (.cons (relR a) (.cons rx .nil)) q) fun r s' ⟨z, H', I', rz, b, ez, q'⟩ => ?_)
  subst ez
  obtain rfl : r = Value.bool b := rz
  exact wpAny_truthy_bool ⟨_, _, I', relB b, q'⟩
/-- len(o) by the class's own def -/
def rLenO (C : Addr) (sp : Sp) (E : XK) : List V → Hp → VK → Prop := fun xs H Q =>
  ∃ a dx fs, xs = [.ref a] ∧ H a = some (.ins C dx fs) ∧ sp [.ref a] H (fun v H' => ∃ n : Nat, v = .int n ∧ n < 1000 ∧ Q (.int n) H') E
theorem call_len_own (hd : Dn X.K C "__len__" f) (F : FnOk X.prog X.w X.K X.mg X.base CX k f fd ps sp) (hr : Room (k + 1) X.A) (hb : Binds X.K fd ps []) (hx : Passes CX X E) : CallR X (.builtin "len") (rLenO C sp E) := by
  intro pins s σ H xs us Q I rv ⟨a, dx, fs, ex, ha, q⟩
  subst ex
  obtain ⟨u, rfl, ru⟩ := rv.one
  obtain rfl : u = Value.ref a := ru
  obtain ⟨mA, O, rr, _, _, _⟩ := ins_get I.hok ha
  obtain ⟨od, J, hl⟩ := O.look
  obtain ⟨m0, hF⟩ := I.fr
  refine PySem.W.len_K hF I.ok.mod.kin J hd.at_ hd.fn (thn (run_sub F (Sub.in1 ⟨hr, rfl⟩) hb hx I (.cons (relR a) .nil) q) fun r s' ⟨z, H', I', rz, n, ez, hn, q'⟩ => ?_)
  subst ez
  obtain ⟨t, rfl⟩ := rz
  exact ⟨⟨by omega, by omega⟩, _, _, I'.tok _, relI _ _, q'⟩
end

/-! for x in o, o an instance whose __iter__ says: return iter(self.F), F a tuple -/
def itTup (t : Addr) (i : Nat) : Obj := { cls := .type "tuple_iterator", data := .fields #[.ref t, .int (i : Nat) 0] }
def ItT (t it : Addr) (i : Nat) : HO := .ext fun h => h.get? it = some (itTup t i)
def rIterT (K : PySem.W.Frag) (n : Nat) : List V → Hp → VK → Prop := fun xs H Q => ∃ (t : Addr) (zs : List V), xs = [.ref t] ∧ SqT K H t zs ∧ ∀ it, H it = Option.none → n ≤ it → Q (.ref it) (upd H it (ItT t it 0))
section
variable {X : Cx}
theorem call_iterT : CallR X (.builtin "iter") (rIterT X.K X.s_0.heap.objs.size) := by
  intro pins s σ H xs us Q I r ⟨t, zs, e, hq, q⟩
  subst e
  obtain ⟨u, rfl, ru⟩ := r.one
  obtain rfl : u = Value.ref t := ru
  obtain ⟨its, rv, pl, hz⟩ := I.tuple hq
  refine Calls.call_function_entry (by decide +kernel) (by decide +kernel) PySem.W.kdk_entry_iter (PySem.W.kdk_args_iter _) ?_
  unfold Builtin.«iter»
  refine wpAny_bind (m := someArgs "iter" 1 2 _) (wpAny_of_eq (a := [Value.ref t]) (by first | rfl | kernel_rfl!) ?_)
  show wpAny _ _ (pyIter (.ref t) >>= _) _ _ _
  refine wpAny_bind (wpAny_pyIter_tuple (show s.heap.IsTuple t its.toArray from pl) ?_)
  have g : (s.heap.push (itTup t 0)).get? s.heap.objs.size = some (itTup t 0) := Heap.get?_push_size _ rfl
  have ok : ObjOk X.prog X.w (upd H s.heap.objs.size (ItT t s.heap.objs.size 0)) (s.heap.push (itTup t 0)) s.heap.objs.size (ItT t s.heap.objs.size 0) := ⟨g, ⟨_, g⟩, fun _ _ q k => k _ q⟩
  exact wpAny_pure ⟨_, rfl, .ref s.heap.objs.size, _, I.laid (t' := s.toks) (fun b u e => Heap.get?_push_of_some _ e) (Nat.le_refl _) ok, relR _, q _ (I.hok.fresh (Nat.le_refl _)) I.sz⟩
end

/-- a promise that may speak of how many objects there are when the def is called -/
def FnIt (P : Program) (w : World) (K : PySem.W.Frag) (mg : Str → Option Value) (base : Heap) (k : Nat) (f : Addr) (fd : FuncData) (ps : List Str) (sp : Nat → List V → Hp → VK → Prop) : Prop :=
  ∀ (A : Around) (outer : List Env) (s : Shared) (H : Hp) (us : List Value) (vs : List V) (Q : VK), Room k A → Env0 P w K mg base A outer s H → BindsTo s fd ⟨us, []⟩ (ps.zip us) → vs.length = ps.length → Vals vs us →
    sp s.heap.objs.size vs H Q → codeAny (model P w) A (.call (.ref f) ⟨us, []⟩) (CR CX0 outer P w H s Q E0) s
section
variable {P : Program} {w : World} {K : PySem.W.Frag} {mg : Str → Option Value} {base : Heap}
theorem fnIt_of {x qual : Str} {st : Stmt} {f : Addr} {fd : FuncData} {N ps : List Str} {k : Nat} {sp : Nat → List V → Hp → VK → Prop} (F : Fun K x qual st f fd) (S : FnScope N ps (defScope st))
    (hbody : ∀ (cdv : Value) (A : Around) (outer : List Env) (s : Shared) (H : Hp) (vs : List V) (Q : VK), Room k (A.deeper (envOfC qual (defScope st) s.heap.objs.size f cdv)) → sp s.heap.objs.size vs H Q →
      ∃ t, PSs (cxOf CX0 P w K mg base N qual (defScope st) f cdv A outer s H E0).nox (defBody st) t ∧ t { nx := fun _ H' => Q .non H', rt := Q } (start N vs) H) : FnIt P w K mg base (k + 1) f fd ps sp := by
  obtain ⟨oc, od, kV, doc, pm, an, cdv, ct, osl, rfl, lk, hcd⟩ := F.ex
  intro A outer s H us vs Q hr e0 hb hl r hsp
  have kin : K.In s.heap := e0.mod.kin.keeps fun b o e => (e0.bs b o e).1
  have lim : s.heap.NoLimit := e0.mod.nolimit.keeps fun b o e => (e0.bs b o e).1
  have kinds : ∀ y ∈ ps.zip us, (defScope st).names.lookup y.1 = some .local ∨ ((defScope st).names.lookup y.1 = some .cell ∧ ((cellsFrom (s.heap.objs.size + 1) (defScope st).names []).lookup y.1).isSome = true) := by
    intro y hy
    cases S.par y.1 (List.of_mem_zip (a := y.1) (b := y.2) hy).1 with
    | inl q => exact .inl q
    | inr q => exact .inr ⟨q, PySem.W.cellsFrom_some _ _ _ (.inl q)⟩
  apply codeAny_call_function hr.depth (kin _ _ lk) rfl S.co S.gen rfl (PySem.W.codeRec_of kin hcd) (hb _ _ _ _ ?_)
  apply wpAny_newFunctionEnv_cells S.kind kinds
  intro env he s1 x
  subst he
  refine ⟨lim.keeps x.toInCall.keep, codeAny_func ?_⟩
  obtain ⟨t, ht, hq⟩ := hbody cdv A outer s H vs Q (hr.deeper _) hsp
  have I := inv_start (CX := CX0) (P := P) (w := w) (E := E0) (cd := cdv) (qual := qual) (f := f) (outer := outer) S hr.hd e0 hl r x
  refine wpAny_mono (ht.nox.run [] s1 (start N vs) H _ I hq) (fun fl s' hs => ?_) fun e s' hs => hs
  match fl, hs with
  | .ret u, ⟨v, σ', H', J, rv, q⟩ => exact ⟨v, H', J.os, J.bare, J.base, J.hok, rv, q⟩
  | .next, ⟨σ', H', J, q⟩ => exact ⟨V.non, H', J.os, J.bare, J.base, J.hok, rfl, q⟩
  | .brk, ⟨_, _, _, q⟩ => exact False.elim q
  | .cont, ⟨_, _, _, q⟩ => exact False.elim q
end
/-- what such an __iter__ promises -/
def spIter (K : PySem.W.Frag) (C : Addr) (fld : Str) : Nat → List V → Hp → VK → Prop := fun n vs H Q => ∃ a dx fs t zs, vs = [.ref a] ∧ H a = some (.ins C dx fs) ∧ fs.lookup fld = some (.ref t) ∧ SqT K H t zs ∧
  ∀ it, H it = Option.none → n ≤ it → Q (.ref it) (upd H it (ItT t it 0))
/-- x in o, for a loop: o's own tuple is walked -/
def iOwn (K : PySem.W.Frag) (C : Addr) (fld : Str) (to : TE) : TI := fun σ H R => to σ H fun x H1 => ∃ a dx fs t zs, x = .ref a ∧ H1 a = some (.ins C dx fs) ∧ fs.lookup fld = some (.ref t) ∧ SqT K H1 t zs ∧ R (Itt K t) H1
section
variable {X : Cx} {k : Nat} {f C : Addr} {fd : FuncData} {fld : Str} {tg o : Expr} {to : TE} {pins : List (Addr × Obj)} {σ : L2.St} {H : Hp} {s : Shared} {A1 : Around}
theorem run_iter {a t dx : Addr} {fs : List (Str × V)} {zs : List V} (F : FnIt X.prog X.w X.K X.mg X.base k f fd ["self"] (spIter X.K C fld)) (sb : Sub X k A1) (hb : Binds X.K fd ["self"] []) (I : Inv X pins σ H s)
    (ha : H a = some (.ins C dx fs)) (hf : fs.lookup fld = some (.ref t)) (ht : SqT X.K H t zs) {E : Value → Shared → Prop} :
    wpAny (model X.prog X.w) A1 (call (.ref f) [.ref a]) (fun u s' => ∃ it, u = .ref it ∧ s.heap.objs.size ≤ it ∧ H it = Option.none ∧ Inv X pins σ (upd H it (ItT t it 0)) s') E s := by
  have hb1 : BindsTo s fd ⟨[.ref a], []⟩ ((["self"] : List Str).zip [Value.ref a]) := by
    have z := hb s [.ref a] I.kIn rfl
    exact z
  refine wpAny_call (codeAny_mono (F A1 X.stack s H [.ref a] [.ref a] (fun v H' => ∃ it, v = .ref it ∧ s.heap.objs.size ≤ it ∧ H it = Option.none ∧ H' = upd H it (ItT t it 0)) sb.room (Sub.env0 sb I) hb1 rfl (.cons (relR a) .nil)
    ⟨a, dx, fs, t, zs, rfl, ha, hf, ht, fun it h0 hn => ⟨it, rfl, hn, h0, rfl⟩⟩) fun z s' hq => ?_)
  match z, hq with
  | .error e, hq => exact hq.elim
  | .ok (.ret u), hq =>
    obtain ⟨v, H', I', rv, it, ev, hn, h0, eH⟩ := I.after hq
    subst ev
    rw [eH] at I'
    obtain rfl : u = Value.ref it := rv
    exact ⟨it, rfl, hn, h0, I'⟩
  | .ok .next, hq => exact False.elim hq
  | .ok .brk, hq => exact False.elim hq
  | .ok .cont, hq => exact False.elim hq
theorem pi_own (hd : Dn X.K C "__iter__" f) (F : FnIt X.prog X.w X.K X.mg X.base k f fd ["self"] (spIter X.K C fld)) (hr : Room k X.A) (hb : Binds X.K fd ["self"] []) (ho : PE X o to) : PI X tg o (iOwn X.K C fld to) := by
  refine ⟨fun pins s σ H R I h => ?_⟩
  refine thn (ho.run pins s σ H _ I h) fun u s1 ⟨x, H1, I1, rx, a, dx, fs, t, zs, ex, ha, hf, ht, q⟩ => ?_
  subst ex
  obtain rfl : u = Value.ref a := rx
  obtain ⟨mA, O, rr, _, _, _⟩ := ins_get I1.hok ha
  obtain ⟨od, J, hl⟩ := O.look
  obtain ⟨m0, hF⟩ := I1.fr
  refine PySem.W.owit_iter hF I1.ok.mod.kin J hd.at_ hd.fn (thn (run_iter F ⟨hr, rfl⟩ hb I1 ha hf ht) fun r s2 ⟨it, er, hn, h0, I2⟩ => ?_)
  subst er
  have e2 : upd H1 it (ItT t it 0) it = some (ItT t it 0) := upd_same
  have g : s2.heap.get? it = some (itTup t 0) := (I2.hok it _ e2).1
  have hT : s2.TypeIs (.ref it) "tuple_iterator" := ⟨_, g, rfl⟩
  have hfp := ItX.inv_fp I2 e2 (Nat.le_trans I1.sz hn)
  have I3 := ItX.inv_drop I2 e2
  rw [ItX.dropH_upd h0] at I3 hfp
  unfold PySem.W.OwitIt
  refine wpAny_specialOf (name := Str.ofString "__next__") hT PySem.F.slot_tuple_iterator_next.lookup ?_
  refine ⟨it, [it], _, _, H1, rfl, I3, turn_tuple t it, ⟨_, g, rfl, rfl⟩, fun b hb => ?_, q⟩
  rw [List.mem_singleton.mp hb]
  exact hfp
end
/-! C.m(e, .., k = v, ..), m a classmethod; cls(e, .., k = v, ..), cls a local name that holds the class -/
def tCMethK (C : Addr) (n m : Nat) (sp : Sp) (gV : List V → List V → List V) (E : XK) (ta : TE) (t tk : TA) : TE := fun σ H Q => ta σ H fun x H1 => x = .ref C ∧ t σ H1 fun vs H2 => tk σ H2 fun zs H3 => (.ref C :: vs).length = n ∧ zs.length = m ∧ sp (gV (.ref C :: vs) zs) H3 Q E
def tMakeLK (i : Nat) (C : Addr) (n m : Nat) (sp : Sp) (gV : List V → List V → List V) (E : XK) (t tk : TA) : TE := fun σ H Q => σ[i]? = some (some (.ref C)) ∧ tMakeK C n m sp gV E t tk σ H Q
section
variable {X : Cx} {CX : CXT} {k n i : Nat} {C p g f : Addr} {mc : Value} {sp : Sp} {E : XK} {o e : Expr} {es : List Expr} {kws : List Keyword} {m x : Str} {pos apos xpos : Pos} {ta : TE} {t tk : TA} {pl : Sem Bool} {fd : FuncData} {ps ks : List Str}
  {gv : List Value → List Value → List Value} {gV : List V → List V → List V}
theorem pe_cmethK (he : PE X o ta) (r : ClX.CRead X.K C mc) (c : ClX.CMet X.K C mc m p g) (F : FnOk X.prog X.w X.K X.mg X.base CX k g fd ps sp) (hr : Room k X.A) (hb : KBn X.K fd ps n ks gv gV) (hx : Passes CX X E) (ha : PA X (e :: es) t) (hkw : PK X kws tk)
    (hall : (backToKw pos (keywordEach kws X.env)).all (·.1.isSome) = true := by rfl) (hks : (backToKw pos (keywordEach kws X.env)).filterMap (·.1) = ks := by rfl)
    (hst : starEach (e :: es) X.env = (false, eval e X.env) :: starEach es X.env := by rfl) (hpl : ((backTo pos (starEach (e :: es) X.env)).any (·.1) || (backToKw pos (keywordEach kws X.env)).any (·.1.isNone)) = false := by rfl)
    (ht : eval (.Call (.Attribute o m apos) (e :: es) kws pos) X.env = (do
      let ov ← eval o X.env
      standAt apos.atName
      let (f, first) ← holding [ov] (getMethod ov m pl)
      callWith pos f first (backTo pos (starEach (e :: es) X.env)) (backToKw pos (keywordEach kws X.env))) := by rfl) :
    PE X (.Call (.Attribute o m apos) (e :: es) kws pos) (tCMethK C n ks.length sp gV E ta t tk) := by
  refine ⟨fun pins s σ H Q I h => ?_⟩
  refine PySem.W.methodCall_KW (pl := pl) (thn (he.run pins s σ H _ I h) fun u s1 ⟨x, H1, I1, rx, ex, q⟩ => ?_) ht
  subst ex
  obtain rfl : u = Value.ref C := rx
  refine ClX.getmethcm_ok I1 r c fun s2 I2 => ?_
  refine PySem.W.callWith_of (P := PySem.W.MethP X.K s1.heap.objs.size g (.ref C)) hpl (PySem.W.keeps_M c.fi) (evalArgs_kw2 hall (thn (ha.run pos _ s2 σ H1 _ I2 q) fun us s3 ⟨vs, H2, I3, rv, q2⟩ => ?_) hst)
  refine thn (hkw.run pos _ s3 σ H2 _ I3 q2) fun ws s4 ⟨zs, H3, I4, rz, l1, l2, q3⟩ => ⟨⟨ClX.pin_at I4, I4.kIn⟩, ?_⟩
  rw [hks]
  have r2 : Vals (V.ref C :: vs) (Value.ref C :: us) := .cons (relR C) rv
  have n1 : (Value.ref C :: us).length = n := r2.length.symm.trans l1
  have I5 := ClX.unpin I4
  refine wpAny_call (PySem.W.method_call (ClX.pin_at I4) (codeAny_mono (F.run X.A X.stack s4 H3 ⟨Value.ref C :: us, ks.zip ws⟩ _ _ Q E hr I5.env0 (hb.to _ (Value.ref C :: us) ws I5.kIn n1 (rz.length.symm.trans l2)) (hb.rel r2 rz) q3) fun z s' hq => ?_))
  match z, hq with
  | .error e, hq => exact hx pins σ H3 s4 e s' I5 hq
  | .ok (.ret u), hq => exact I5.after hq
  | .ok .next, hq => exact False.elim hq
  | .ok .brk, hq => exact False.elim hq
  | .ok .cont, hq => exact False.elim hq
theorem pe_makeLK (M : Mk X.K C f) (F : FnOk X.prog X.w X.K X.mg X.base CX k f fd ps sp) (hr : Room (k + 1) X.A) (hb : KBn X.K fd ps (n + 1) ks gv gV) (hx : Passes CX X E) (ha : PA X (e :: es) t) (hkw : PK X kws tk)
    (hN : X.N[i]? = some x) (hv : Vis X.env.scope x) (hd : (x == ("__debug__" : Str)) = false := by decide) (hcd : (x == ("__classdict__" : Str)) = false := by decide)
    (hall : (backToKw pos (keywordEach kws X.env)).all (·.1.isSome) = true := by rfl) (hks : (backToKw pos (keywordEach kws X.env)).filterMap (·.1) = ks := by rfl)
    (hst : starEach (e :: es) X.env = (false, eval e X.env) :: starEach es X.env := by rfl) (hpl : ((backTo pos (starEach (e :: es) X.env)).any (·.1) || (backToKw pos (keywordEach kws X.env)).any (·.1.isNone)) = false := by rfl) :
    PE X (.Call (.Name x xpos) (e :: es) kws pos) (tMakeLK i C n ks.length sp gV E t tk) := by
  refine ⟨fun pins s σ H Q I ⟨h0, h⟩ => ?_⟩
  refine wpAny_Call_Name_kw (thn ((pe_var (pos := xpos) (i := i) hN hv hd hcd).run pins s σ H (fun v H1 => v = .ref C ∧ H1 = H) I ⟨.ref C, h0, rfl, rfl⟩) fun u s1 ⟨v, H1, I1, r1, ev, eH⟩ => ?_)
  subst ev
  rw [eH] at I1
  obtain rfl : u = Value.ref C := r1
  refine PySem.W.callWith_KW (h₀ := X.base) I1.ok.mod.kin M.kp hall (thn (ha.run pos pins s1 σ H _ I1 h) fun us s2 ⟨vs, H2, I2, r, q⟩ => ?_) hpl hst
  refine thn (hkw.run pos pins s2 σ H2 _ I2 q) fun ws s3 ⟨zs, H3, I3, rz, l1, l2, q2⟩ => ⟨I3.kIn, ?_⟩
  rw [hks]
  exact run_makeK M F hr hb hx I3 r rz l1 l2 q2
end

/-! heaps that only grow -/
theorem Same.up {H : Hp} {p : Addr} {o : HO} (h : H p = Option.none) : Same H (upd H p o) := fun b u e => by
  rw [upd_ne (ne_of_none e h)]
  exact e
/-- a list under way at D, which was not there in H1 -/
structure Acc (H1 : Hp) (D : Addr) (acc : List V) (H : Hp) : Prop where
  s : Same H1 H
  n : H1 D = Option.none
  a : H D = some (.lst acc)
theorem Acc.start {H1 : Hp} {D : Addr} (n : H1 D = Option.none) : Acc H1 D [] (upd H1 D (.lst [])) := ⟨Same.up n, n, upd_same⟩
theorem Acc.same {H1 H H' : Hp} {D : Addr} {acc : List V} (h : Acc H1 D acc H) (s : Same H H') : Acc H1 D acc H' := ⟨h.s.trans s, h.n, s _ _ h.a⟩
theorem Acc.push {H1 H : Hp} {D : Addr} {acc zs : List V} (h : Acc H1 D acc H) : Acc H1 D zs (upd H D (.lst zs)) :=
  ⟨fun b o e => by rw [upd_ne (ne_of_none e h.n)]; exact h.s b o e, h.n, upd_same⟩
theorem Same.none' {H H' : Hp} (s : Same H H') {p : Addr} (h : H' p = Option.none) : H p = Option.none := s.free h
theorem Same.of_upd {H H' : Hp} {p : Addr} {o : HO} (h : H p = Option.none) (s : Same (upd H p o) H') : Same H H' := (Same.up h).trans s
/-- a list of ints as values -/
theorem ints_at {ns : List Int} {i : Nat} {x : V} (h : (ns.map V.int)[i]? = some x) : ∃ (hi : i < ns.length), x = .int ns[i] := by
  rw [List.getElem?_map] at h
  cases e : ns[i]? with
  | none => rw [e] at h; cases h
  | some u =>
    rw [e] at h
    obtain ⟨hi, rfl⟩ := List.getElem?_eq_some_iff.mp e
    exact ⟨hi, (Option.some.inj h).symm⟩

/-! comprehensions that pick -/
section
variable {α : Type} {H1 H : Hp} {D : Addr} {ks : List α} {f : α → Option V} {i : Nat} {c : α → V}
def PickI (H1 : Hp) (D : Addr) (ks : List α) (f : α → Option V) : Nat → Hp → Prop := fun i H => Acc H1 D ((ks.take i).filterMap f) H
theorem pick_start (n : H1 D = Option.none) : PickI H1 D ks f 0 (upd H1 D (.lst [])) := Acc.start n
theorem take_fm (hi : i < ks.length) : (ks.take (i + 1)).filterMap f = (ks.take i).filterMap f ++ (f ks[i]).toList := by
  rw [List.take_succ_eq_append_getElem hi, List.filterMap_append]
  cases h : f ks[i] <;> simp [h]
theorem pick_yes {H' : Hp} {y : V} (hi : i < ks.length) (hl : ks.length ≤ 1000) (e : f ks[i] = some y) (s : Same H H') (h : PickI H1 D ks f i H) :
    ∃ acc, H' D = some (.lst acc) ∧ acc.length < sizeLine ∧ PickI H1 D ks f (i + 1) (upd H' D (.lst (acc ++ [y]))) := by
  have h2 := Acc.same h s
  refine ⟨_, h2.a, small1000 ?_, ?_⟩
  · exact Nat.le_trans (Nat.le_trans (List.length_filterMap_le _ _) (List.length_take_le _ _)) (by omega)
  · unfold PickI
    rw [take_fm hi, e]
    exact h2.push
theorem pick_no {H' : Hp} (hi : i < ks.length) (e : f ks[i] = none) (s : Same H H') (h : PickI H1 D ks f i H) : PickI H1 D ks f (i + 1) H' := by
  unfold PickI
  rw [take_fm hi, e, Option.toList_none, List.append_nil]
  exact Acc.same h s
theorem pick_end {m : Nat} (hm : m = ks.length) (h : PickI H1 D ks f m H) : Acc H1 D (ks.filterMap f) H := by
  subst hm
  unfold PickI at h
  rw [List.take_length] at h
  exact h
theorem map_at {x : V} (h : (ks.map c)[i]? = some x) : ∃ hi : i < ks.length, x = c ks[i] := by
  rw [List.getElem?_map] at h
  cases e : ks[i]? with
  | none => rw [e] at h; cases h
  | some u =>
    rw [e] at h
    obtain ⟨hi, rfl⟩ := List.getElem?_eq_some_iff.mp e
    exact ⟨hi, (Option.some.inj h).symm⟩
end
end Tw

set_option Elab.async false
set_option linter.all false
set_option maxRecDepth 100000
set_option maxHeartbeats 2000000
namespace Tw
open PySem PySem.Spec PyProof.Rows L2
open PySem.W (InstAt looks_findIn looks_subIn ifBound_K cmp_K)
/-- a class with an own __eq__ and the usual != -/
structure EqC (K : PySem.W.Frag) (C f : Addr) : Prop where
  eq : PySem.W.findIn K (.ref C) "__eq__" = some (some (.ref f))
  fn : PySem.W.isFn K (.ref f) = true
  ne : PySem.W.findIn K (.ref C) "__ne__" = some (some (.builtin "object.__ne__"))
  ob : PySem.W.subIn K (.ref C) (.type "object") = some true
  ni : PySem.W.subIn K (.type "int") (.ref C) = some false
  nt : PySem.W.subIn K (.type "tuple") (.ref C) = some false

section
variable {prog : Program} {w : World} {A : Around} {E : Value → Shared → Prop} {s : Shared} {K : PySem.W.Frag} {x C L f : Addr} {h₀ : Heap} {m : Str → Option Value} {ox : Obj} {od : Option Obj} {b tb : Value}
theorem ne_entry {Q : PySem.Fin → Shared → Prop} (hu : A.units < cLine) (X : K.In s.heap) (I : InstAt s.heap x ox C od) (c : EqC K C f)
    (h : wpAny (model prog w) A (call (.ref f) [.ref x, b]) (fun v s' => ∃ r, v = .bool r ∧ Q (.done (.ret (.bool (!r)))) s') E s) :
    wpAny (model prog w) A (Builtin.«object.__ne__» ⟨[.ref x, b], []⟩) Q E s := by
  unfold Builtin.«object.__ne__»
  refine wpAny_bind (wpAny_of_eq (a := (Value.ref x, [b])) (by first | rfl | kernel_rfl!) ?_)
  refine wpAny_bind (wpAny_cRoomFor hu ?_)
  refine wpAny_bind (m := callSpecialIfBound? (.ref x) (Str.ofString "__eq__") [b]) (ifBound_K X I c.eq c.fn (wpAny_mono h (fun v s' hv => ?_) fun _ _ e => e))
  obtain ⟨r, e, q⟩ := hv
  subst e
  refine wpAny_bind (m := truthy (.bool r)) (wpAny_truthy_bool ?_)
  exact wpAny_pure q
theorem ne_call {Q : Value → Shared → Prop} (hu : A.in1.units < cLine) (X : K.In s.heap) (I : InstAt s.heap x ox C od) (c : EqC K C f)
    (h : wpAny (model prog w) A.in1 (call (.ref f) [.ref x, b]) (fun v s' => ∃ r, v = .bool r ∧ Q (.bool (!r)) s') E s) :
    wpAny (model prog w) A (call (.builtin "object.__ne__") [.ref x, b]) Q E s := by
  have t2 : PySem.W.Looks (model prog w) s.heap (isInstance (.ref x) (.type "object")) true := I.type.andThen (looks_subIn X c.ob)
  refine wpAny_call (codeAny_call_builtin F.cmp_object.ne.plain F.cmpEntry_ne (PySem.W.check_slot F.cmpKind_ne F.cmpSplit_ne t2 (F.cmpArgs_ne _ _) (ne_entry hu X I c (wpAny_mono h (fun v s' hv => ?_) fun _ _ e => e))))
  obtain ⟨r, e, q⟩ := hv
  exact ⟨r, e, q⟩
theorem ne_bound {Q : Option Value → Shared → Prop} (hu : A.in1.units < cLine) (X : K.In s.heap) (I : InstAt s.heap x ox C od) (c : EqC K C f)
    (h : wpAny (model prog w) A.in1 (call (.ref f) [.ref x, b]) (fun v s' => ∃ r, v = .bool r ∧ Q (some (.bool (!r))) s') E s) :
    wpAny (model prog w) A (callSpecialIfBound? (.ref x) "__ne__" [b]) Q E s := by
  simp only [callSpecialIfBound?, bindSpecialIfBound?]
  refine wpAny_holding (wpAny_bind (wpAny_bind (wpAny_bind (I.type.here ((looks_findIn X c.ne).here ?_)))))
  refine wpAny_bind (wpAny_askSetting (wpAny_ite ?_))
  have fin : wpAny (model prog w) A (call (.builtin "object.__ne__") ([.ref x] ++ [b]) >>= fun v => pure (some v)) Q E s :=
    wpAny_bind (ne_call hu X I c (wpAny_mono h (fun v s' ⟨r, e, q⟩ => ⟨r, e, wpAny_pure q⟩) fun _ _ e => e))
  have bd := F.cmp_object.ne.bind (.ref x)
  split
  · refine wpAny_bind ?_
    rw [bd]
    exact wpAny_pure (wpAny_pure (by exact fin))
  · refine wpAny_tryCatch (wpAny_bind ?_)
    rw [bd]
    exact wpAny_pure (wpAny_pure (by exact fin))
theorem ne_K {Q : Value → Shared → Prop} (hu : A.in1.units < cLine) (hu0 : A.units < cLine) (F : Fr h₀ L s.heap m) (X₀ : K.In h₀) (I : InstAt s.heap x ox C od) (hb : PySem.W.Looks (model prog w) s.heap (typeOf b) tb) (hn : PySem.W.notFirst K C tb = true) (c : EqC K C f)
    (h : wpAny (model prog w) A.in1 (call (.ref f) [.ref x, b]) (fun v s' => ∃ r, v = .bool r ∧ Q (.bool (!r)) s') E s) : wpAny (model prog w) A (richCompare .NotEq (.ref x) b) Q E s := by
  have X := X₀.keeps F.keep
  have one : wpAny (model prog w) A (tryCompare (.ref x) (cmpInfo .NotEq).2.1 b) (fun r s' => ∃ v, r = some v ∧ Q v s') E s := by
    unfold tryCompare
    refine wpAny_bind (ne_bound hu X I c (wpAny_mono h (fun v s' ⟨r, e, q⟩ => ⟨r, e, ?_⟩) fun _ _ e => e))
    exact wpAny_pure ⟨_, rfl, q⟩
  have two : ∀ r s', (∃ v, r = some v ∧ Q v s') → ∃ v, r = some v ∧ Q v s' := fun _ _ z => z
  unfold richCompare
  simp only [oneThing_ref]
  refine wpAny_holding (wpAny_bind (wpAny_cRoomFor hu0 ?_))
  refine wpAny_bind (I.type.here (wpAny_bind (hb.here ?_)))
  split
  · rename_i q
    have e : PySem.W.subIn K tb (.ref C) = some false := by
      rcases Bool.or_eq_true_iff.mp hn with e | e
      · rw [beq_iff_eq.mp e] at q; simp at q
      · exact beq_iff_eq.mp e
    refine wpAny_bind ((looks_subIn X e).here ?_)
    simp only [Bool.false_eq_true, if_false]
    refine wpAny_bind (wpAny_mono one (fun r s' ⟨v, ev, hq⟩ => ?_) fun _ _ e => e)
    subst ev
    exact wpAny_pure hq
  · refine wpAny_bind (wpAny_pure ?_)
    simp only [Bool.false_eq_true, if_false]
    refine wpAny_bind (wpAny_mono one (fun r s' ⟨v, ev, hq⟩ => ?_) fun _ _ e => e)
    subst ev
    exact wpAny_pure hq
end
/-! as rules -/
section
variable {X : Cx} {CX : CXT} {k : Nat} {f C : Addr} {fd : FuncData} {ps : List Str} {sp : Sp} {E : XK}
/-- the other operand: an instance of the same class, an int, a tuple -/
inductive Oth (H : Hp) (C : Addr) : V → Prop where
  | ins {a dx : Addr} {fs : List (Str × V)} (h : H a = some (.ins C dx fs)) : Oth H C (.ref a)
  | int (i : Int) : Oth H C (.int i)
  | tup {a : Addr} {xs : List V} (h : H a = some (.tup xs)) : Oth H C (.ref a)
def rEqO (C : Addr) (sp : Sp) (E : XK) (neg : Bool) : R2 := fun x y H Q =>
  ∃ a dx fs, x = .ref a ∧ H a = some (.ins C dx fs) ∧ Oth H C y ∧ sp [.ref a, y] H (fun v H' => ∃ r, v = .bl r ∧ Q (.bl (if neg then !r else r)) H') E
theorem oth_type {pins : List (Addr × Obj)} {σ : L2.St} {H : Hp} {s : Shared} {y : V} {u : Value} (I : Inv X pins σ H s) (ry : RelV y u) (c : EqC X.K C f) (o : Oth H C y) :
    ∃ tb, PySem.W.Looks (model X.prog X.w) s.heap (typeOf u) tb ∧ PySem.W.notFirst X.K C tb = true := by
  cases o with
  | @ins a dx fs h =>
    obtain rfl : u = Value.ref a := ry
    obtain ⟨mA, O, rr, _, _, _⟩ := ins_get I.hok h
    obtain ⟨od, J, hl⟩ := O.look
    exact ⟨_, J.type, by unfold PySem.W.notFirst; simp⟩
  | int i =>
    obtain ⟨t, rfl⟩ := ry
    exact ⟨.type "int", .now, by unfold PySem.W.notFirst; rw [c.ni]; simp⟩
  | @tup a xs h =>
    obtain rfl : u = Value.ref a := ry
    obtain ⟨_, _, _, ob, h1, h2, _⟩ := (show ObjOk X.prog X.w H s.heap a (.tup xs) from I.hok a _ h)
    exact ⟨.type "tuple", h2 ▸ (PySem.W.Looks.ld h1).andThen .now, by unfold PySem.W.notFirst; rw [c.nt]; simp⟩
theorem op_eq_own (c : EqC X.K C f) (F : FnOk X.prog X.w X.K X.mg X.base CX k f fd ps sp) (hr : Room k X.A) (hb : Binds X.K fd ps []) (hx : Passes CX X E) : OpR X (compareOp .Eq) (rEqO C sp E false) := by
  intro pins s σ H x y v u Q I rx ry ⟨a, dx, fs, ex, ha, o, q⟩
  subst ex
  obtain rfl : v = Value.ref a := rx
  obtain ⟨mA, O, rr, _, _, _⟩ := ins_get I.hok ha
  obtain ⟨od, J, hl⟩ := O.look
  obtain ⟨m0, hF⟩ := I.fr
  obtain ⟨tb, lk, nf⟩ := oth_type I ry c o
  show wpAny _ _ (richCompare .Eq (.ref a) u) _ _ _
  refine cmp_K hr.units0 hF I.ok.mod.kin J lk nf c.eq c.fn (thn (run_sub F ⟨hr, rfl⟩ hb hx I (.cons (relR a) (.cons ry .nil)) q) fun r s' ⟨z, H', I', rz, b, ez, q'⟩ => ?_)
  subst ez
  obtain rfl : r = Value.bool b := rz
  exact ⟨_, H', I', relB b, q'⟩
theorem op_ne_own (c : EqC X.K C f) (F : FnOk X.prog X.w X.K X.mg X.base CX k f fd ps sp) (hr : Room (k + 1) X.A) (hb : Binds X.K fd ps []) (hx : Passes CX X E) : OpR X (compareOp .NotEq) (rEqO C sp E true) := by
  intro pins s σ H x y v u Q I rx ry ⟨a, dx, fs, ex, ha, o, q⟩
  subst ex
  obtain rfl : v = Value.ref a := rx
  obtain ⟨mA, O, rr, _, _, _⟩ := ins_get I.hok ha
  obtain ⟨od, J, hl⟩ := O.look
  obtain ⟨m0, hF⟩ := I.fr
  obtain ⟨tb, lk, nf⟩ := oth_type I ry c o
  show wpAny _ _ (richCompare .NotEq (.ref a) u) _ _ _
  refine ne_K (Room.units0 hr.in1) hr.units0 hF I.ok.mod.kin J lk nf c (thn (run_sub F (Sub.in1 ⟨hr, rfl⟩) hb hx I (.cons (relR a) (.cons ry .nil)) q) fun r s' ⟨z, H', I', rz, b, ez, q'⟩ => ?_)
  subst ez
  exact ⟨b, rz, _, H', I', relB (!b), q'⟩
end
end Tw

set_option Elab.async false
set_option linter.all false
set_option maxRecDepth 100000
set_option maxHeartbeats 4000000
namespace Tw
open PySem PySem.Spec PyProof.Rows L2
/-! enumerate(t), t a tuple -/
def enO (s : Shared) : Obj := { cls := .type "enumerate", data := .fields #[.none, .bool false, .ref s.heap.objs.size, rawInt 0, .none, .none] }
theorem enum_newT (t : Addr) (items : Array Value) :
    Meets (Builtin.«enumerate.__new__» ⟨[.type "enumerate", .ref t], []⟩) (fun _ R s => s.heap.IsTuple t items ∧
      R (.ok (.ret (.ref (s.heap.push (itTup t 0)).objs.size))) { s with heap := (s.heap.push (itTup t 0)).push (enO s) }) :=
  .of_wp fun prog w A R s h => by
    obtain ⟨hp, g, d, tk, os⟩ := s
    obtain ⟨h1, h⟩ := h
    have hsub := sub_enumerate
    have q1 : ∀ {A' : Around} {E : Value → Shared → Prop} {Q : Value → Shared → Prop}, Q (.ref hp.objs.size) ⟨hp.push (itTup t 0), g, d, tk, os⟩ → wpAny (model prog w) A' (pyIter (.ref t)) Q E ⟨hp, g, d, tk, os⟩ :=
      fun q => wpAny_pyIter_tuple (s := ⟨hp, g, d, tk, os⟩) h1 q
    wp_walk using q1
    refine wpAny_stack_any fun st => wpAny_pure ?_
    split
    · rename_i c _ _ _ _ _
      cases (c == Value.type "enumerate")
      · wp_walk using q1
        exact ⟨_, rfl, h⟩
      · wp_walk using q1
        exact ⟨_, rfl, h⟩
    · wp_walk using q1
      exact ⟨_, rfl, h⟩
section
variable {prog : Program} {w : World} {A : Around} {E : Value → Shared → Prop} {s : Shared}
theorem call_enumT {t : Addr} {items : Array Value} {Q : Value → Shared → Prop} (hT : s.heap.IsTuple t items)
    (h : ∀ h', IsEnum h' (s.heap.objs.size + 1) s.heap.objs.size 0 .none → h'.IsTupleIter s.heap.objs.size t 0 → h'.objs.size = s.heap.objs.size + 2 →
      (∀ b o, s.heap.get? b = some o → h'.get? b = some o) → Q (.ref (s.heap.objs.size + 1)) { s with heap := h' }) :
    wpAny (model prog w) A (call (.type "enumerate") [.ref t]) Q E s := by
  refine callType_new F.called_enumerate (by decide) (F.typeCall_enumerate_1 _) (F.newCall_enumerate_1 _) (fun obj => F.args_object_init_2 obj _) F.entry_enumerate_new (enum_newT t items) ⟨hT, ?_⟩
  have hz : (s.heap.push (itTup t 0)).objs.size = s.heap.objs.size + 1 := Heap.size_push ..
  show _ ∧ _
  rw [hz]
  have he : IsEnum ((s.heap.push (itTup t 0)).push (enO s)) (s.heap.objs.size + 1) s.heap.objs.size 0 .none := by
    have q := Heap.get?_push_size (s.heap.push (itTup t 0)) (o := enO s) rfl
    rw [hz] at q
    exact q
  have hi : ((s.heap.push (itTup t 0)).push (enO s)).IsTupleIter s.heap.objs.size t 0 := ⟨_, Heap.get?_push_of_some _ (Heap.get?_push_size _ rfl), rfl, rfl⟩
  exact ⟨⟨_, he, rfl⟩, h _ he hi (by rw [Heap.size_push, hz]) fun b o x => Heap.get?_push_of_some _ (Heap.get?_push_of_some _ x)⟩
end
def IteT (K : PySem.W.Frag) (a : Addr) : It :=
  ⟨fun i H => ∃ (xs : List V) (x : V), SqT K H a xs ∧ xs[i]? = some x, fun i H v H' => ∃ T x, v = .ref T ∧ H T = Option.none ∧ H' = upd H T (.tup [.int (i : Nat), x]) ∧ ∀ xs, SqT K H a xs → xs[i]? = some x, fun i H => ∃ xs : List V, SqT K H a xs ∧ xs.length = i⟩
theorem turn_enumT {P : Program} {w : World} {K : PySem.W.Frag} {elts : List Expr} {kk : Nat} {tpos : Pos} (a e it : Addr) :
    Turn P w K (.Tuple elts kk tpos) (IteT K a) [e, it] e (fun i h => (∃ old, IsEnum h e it ((i : Nat) : Int) old) ∧ h.IsTupleIter it a i ∧ e ≠ it) where
  mem := by simp
  obj := fun i h st b hb => by
    obtain ⟨⟨old, he⟩, ⟨o, ho, hc, hd⟩, _⟩ := st
    rcases (show b = e ∨ b = it by simpa using hb) with rfl | rfl
    · exact ⟨_, he, fun v q => nomatch q⟩
    · exact ⟨o, ho, fun v q => by rw [hd] at q; cases q⟩
  keep := fun i h h' st k => let ⟨⟨old, he⟩, hi, hne⟩ := st; ⟨⟨old, k e (by simp) _ he⟩, hi.at fun o q => k it (by simp) o q, hne⟩
  item := by
    intro X hP hw hK hc i pins s σ H E I hf st hg
    subst hP hw hK
    obtain ⟨⟨old, he⟩, hit, hne⟩ := st
    obtain ⟨xs, x, hq, hx⟩ := hg
    obtain ⟨its, rv, p, hz⟩ := I.tuple hq
    have hil : i < xs.length := (List.getElem?_eq_some_iff.mp hx).1
    have hlen := rv.length
    have hel : e < s.heap.objs.size := Heap.lt_size he
    have hitl : it < s.heap.objs.size := by obtain ⟨_, q, _⟩ := hit; exact Heap.lt_size q
    have hae : e ≠ a := fun z => by
      obtain ⟨oo, h1, h2, _⟩ := p
      rw [← z, he] at h1
      cases h1
      injection h2 with q
      exact absurd q (by decide)
    have hia : it ≠ a := fun z => by
      obtain ⟨oo, h1, h2, _⟩ := p
      obtain ⟨o2, h3, h4, _⟩ := hit
      rw [← z, h3] at h1
      cases h1
      rw [h4] at h2
      injection h2 with q
      exact absurd q (by decide)
    have D := Draws.tuple (prog := X.prog) (w := X.w) (A := X.A.in1) (I.ok.hd hc) it a hia.symm its.toArray
    refine wpAny_pyNext_enum_itemD D he ⟨hit, p⟩ (by rw [List.size_toArray]; omega) hne (by simp [hne, hae]) fun u h' tk hu ho hst hT hsz hk => ?_
    obtain ⟨u2, hu2, ru⟩ := rv.get hx
    obtain rfl : u = u2 := by
      rw [List.getElem?_toArray] at hu
      exact Option.some.inj (hu.symm.trans hu2)
    refine ⟨_, rfl, wpAny_letOwnedTupleGo_enum (s := { s with heap := h', toks := tk + 1 }) ho fun h'' he' sb => ?_⟩
    have hT2 : h''.get? s.heap.objs.size = some { cls := .type "tuple", data := .seq #[.int i tk, u] } := (sb.2 _ (Nat.ne_of_gt hel)).trans hT
    have new : ObjOk X.prog X.w (upd H s.heap.objs.size (.tup [.int (i : Nat), x])) h'' s.heap.objs.size (.tup [.int (i : Nat), x]) :=
      ⟨by show 2 ≤ sizeLine; decide, [.int i tk, u], .cons ⟨_, rfl⟩ (.cons ru .nil), ⟨_, hT2, rfl, _, rfl⟩⟩
    have I1 : Inv X pins σ (upd H s.heap.objs.size (.tup [.int (i : Nat), x])) { s with heap := h'', toks := tk + 1 } :=
      I.turnedNew (ch := [e, it]) (fun b ob hb q => (sb.2 b (fun z => hb (by simp [z]))).trans (hk b ob (fun z => hb (by simp [z])) (fun z => hb (by simp [z])) q)) hf (Nat.le_refl _) new
    refine ⟨.ref s.heap.objs.size, _, I1, rfl, ⟨_, x, rfl, I.hok.fresh (Nat.le_refl _), rfl, fun ys hy => by rw [I.tuple_inj hy hq]; exact hx⟩, ⟨⟨u, ?_⟩, hst.1.at fun o q => (sb.2 it (Ne.symm hne)).trans q, hne⟩, fun b hb => ?_⟩
    · rw [show ((i + 1 : Nat) : Int) = (i : Int) + 1 by omega]
      exact he'
    · have hb' : b < s.heap.objs.size := by
        rcases (show b = e ∨ b = it by simpa using hb) with rfl | rfl
        · exact hel
        · exact hitl
      rw [upd_ne (Nat.ne_of_lt hb')]
      exact (hf b hb).1
  done := by
    intro X hP hw hK hc i pins s σ H E I hf st hg
    subst hP hw hK
    obtain ⟨⟨old, he⟩, hit, hne⟩ := st
    obtain ⟨xs, hq, hx⟩ := hg
    obtain ⟨its, rv, p, hz⟩ := I.tuple hq
    obtain ⟨f0, f1, f2, f3, f4, f5⟩ := hf it (by simp)
    have hlen := rv.length
    have hae : e ≠ a := fun z => by
      obtain ⟨oo, h1, h2, _⟩ := p
      rw [← z, he] at h1
      cases h1
      injection h2 with q
      exact absurd q (by decide)
    have hia : it ≠ a := fun z => by
      obtain ⟨oo, h1, h2, _⟩ := p
      obtain ⟨o2, h3, h4, _⟩ := hit
      rw [← z, h3] at h1
      cases h1
      rw [h4] at h2
      injection h2 with q
      exact absurd q (by decide)
    have D := Draws.tuple (prog := X.prog) (w := X.w) (A := X.A.in1) (I.ok.hd hc) it a hia.symm its.toArray
    have en : its.toArray.size = i := by rw [List.size_toArray]; omega
    refine wpAny_pyNext_enum_endD D he (by rw [en]; exact ⟨hit, p⟩) fun h' eb => ⟨rfl, I.turned (t' := s.toks) (fun b o hb q => eb b o hb q) f0 f1 f3 f4 f5⟩
  self := fun A i s Q E st h => let ⟨⟨_, he⟩, _⟩ := st; wpAny_pyIter_enum he h
theorem walk_enumT {K : PySem.W.Frag} {a : Addr} {xs : List V} : Walk (IteT K a) xs.length (fun H => SqT K H a xs) (YPair (fun i => some (.int (i : Nat))) (fun i => xs[i]?)) := by
  refine ⟨fun i _ hi q => ⟨xs, xs[i], q, by simp [hi]⟩, fun _ q => ⟨xs, q, rfl⟩, fun i H v H' _ q y => ?_⟩
  obtain ⟨T, x, h1, h2, h3, h4⟩ := y
  exact ⟨T, .int (i : Nat), x, h1, h2, h3, rfl, h4 xs q⟩
/-- enumerate of a list or of a tuple -/
def iEnS (K : PySem.W.Frag) (ta : TA) : TI := fun σ H R => ta σ H fun vs H1 => ∃ a xs, vs = [.ref a] ∧ ((SqL K H1 a xs ∧ R (Ite K a) H1) ∨ (SqT K H1 a xs ∧ R (IteT K a) H1))
theorem pi_enS {X : Cx} {e : Expr} {ta : TA} {p pos tpos : Pos} {elts : List Expr} {kk : Nat} (hg : Gl X "enumerate") (hm : X.mg "enumerate" = Option.none) (ha : PA X [e] ta) (hs : starEach [e] X.env = [(false, eval e X.env)] := by rfl) :
    PI X (.Tuple elts kk tpos) (.Call (.Name "enumerate" p) [e] [] pos) (iEnS X.K ta) := by
  refine ⟨fun pins s σ H R I h => ?_⟩
  refine Call_ (ld_blt I hg hm boot_enumerate (PyProof.Rows.callWith_type1 (thn (ha.run pos pins s σ H _ I h) fun us s1 ⟨vs, H1, I1, r1, a, xs, ex, q1⟩ => ?_) hs rfl))
  subst ex
  obtain ⟨u, rfl, ru⟩ := r1.one
  obtain rfl : u = Value.ref a := ru
  have fr : ∀ b ∈ [s1.heap.objs.size + 1, s1.heap.objs.size], FpOk X pins H1 b := fun b hb => by
    have hle : s1.heap.objs.size ≤ b := by
      rcases (show b = s1.heap.objs.size + 1 ∨ b = s1.heap.objs.size by simpa using hb) with z | z <;> omega
    exact I1.fpOk hle (I1.hok.fresh hle)
  rcases q1 with ⟨hq, q⟩ | ⟨hq, q⟩
  · obtain ⟨its, rv, p', hz⟩ := I1.list hq
    exact call_enumerate_list p'.isList fun h' he hit hsz hk => wpAny_pyIter_enum he ⟨_, _, _, _, H1, rfl, I1.kept (t' := s1.toks) hk, turn_enum a (s1.heap.objs.size + 1) s1.heap.objs.size, ⟨⟨.none, he⟩, hit, Nat.succ_ne_self _⟩, fr, q⟩
  · obtain ⟨its, rv, p', hz⟩ := I1.tuple hq
    exact call_enumT p' fun h' he hit hsz hk => wpAny_pyIter_enum he ⟨_, _, _, _, H1, rfl, I1.kept (t' := s1.toks) hk, turn_enumT a (s1.heap.objs.size + 1) s1.heap.objs.size, ⟨⟨.none, he⟩, hit, Nat.succ_ne_self _⟩, fr, q⟩
end Tw

set_option Elab.async false
set_option linter.all false
set_option maxRecDepth 100000
set_option maxHeartbeats 2000000
/-! own rules: min(xs, key=lambda x: ys[x]), ys a name of the def -/
namespace Cl
open PySem PySem.Spec PyProof.Rows L2 LamX
section
variable {prog : Program} {w : World} {A : Around} {E : Value → Shared → Prop} {s : Shared}
/-- what the lambda's scope must say -/
structure LSc (scope : Scope) (x y : Str) : Prop where
  kind : scope.kind = .function
  co : scope.isCoroutine = false
  gen : scope.isGenerator = false
  nocell : ∀ z ∈ scope.names, z.2 ≠ .cell
  px : scope.names.lookup x = some .local
  fy : scope.names.lookup y = some .free
/-- lambda x: y[x], called with an int -/
theorem lam_ix {f l c' ck : Addr} {q x y : Str} {params : Arguments} {p1 p2 p3 : Pos} {scope : Scope} {cl : List (Str × Addr)} {pm ctv u : Value} {vs : List Value} {i : Int} {t : Tok} {Q : Value → Shared → Prop}
    (S : LSc scope x y) (hd : A.depth < recursionLimit) (hf : s.heap.get? f = some (PySem.W.kla_obj "<lambda>" q params (.Subscript (.Name y p1) (.Name x p2) p3) scope cl pm c' ctv))
    (hbind : ∀ v : Value, bindArgs (PySem.W.kla_fn "<lambda>" q params (.Subscript (.Name y p1) (.Name x p2) p3) scope cl pm (.ref c') ctv) ⟨[v], []⟩ = pure [(x, v)])
    (hcode : ∃ (oc : Obj) (us : Array Value) (tk : Tok), s.heap.get? c' = some oc ∧ oc.data = .fields us ∧ us[1]? = some (.str q tk)) (hlim : s.heap.NoLimit)
    (hck : cl.lookup y = some ck) (hcell : s.heap.IsCell ck (some (.ref l))) (hl : s.heap.IsList l vs.toArray) (h0 : 0 ≤ i) (h1 : i < 2 ^ 63) (hi : vs[i.toNat]? = some u)
    (hdx : (x == ("__debug__" : Str)) = false) (hdy : (y == ("__debug__" : Str)) = false) (hcy : (y == ("__classdict__" : Str)) = false)
    (h : ∀ h' tk, s.toks ≤ tk → (∀ b o, s.heap.get? b = some o → h'.get? b = some o) → Q u { s with heap := h', toks := tk }) : wpAny (model prog w) A (call (.ref f) [.int i t]) Q E s := by
  obtain ⟨oc, us, tq, hoc, hdc, hvc⟩ := hcode
  refine wpAny_call (PySem.W.kla_callFunE hd hf rfl S.co S.gen rfl ⟨c', oc, us, tq, rfl, hoc, hdc, hvc⟩ ?_)
  rw [hbind]
  refine wpAny_pure (wpAny_newFunctionEnv S.nocell (fun z hz => by rw [List.mem_singleton.mp hz]; exact S.px) (fun h₁ hns hsb => ⟨hlim.fresh _ hsb, ?_⟩) S.kind)
  have kp : ∀ b o, s.heap.get? b = some o → h₁.get? b = some o := fun b o e => hsb.extBut b o (Nat.ne_of_lt (Heap.lt_size e)) (Heap.get?_push_of_some _ e)
  refine PySem.W.kla_codeExpr ?_
  refine wpAny_Subscript_Name list_getitem_lookup ?_
  refine wpAny_Name (wpAny_loadName_free S.kind S.fy hck (hcell.keeps kp) ?_ hcy) hdy
  refine wpAny_Name (wpAny_loadName_local S.kind S.px hns (v := .int i t) ?_ ?_) hdx
  · simp [List.lookup]
  · have hl' : h₁.IsList l vs.toArray := hl.at fun o e => kp _ _ e
    refine ⟨hl'.typeIs, wpAny_getItem_list hl' h0 h1 (by simpa using hi) ?_⟩
    exact h h₁ _ (by show s.toks ≤ s.toks + _; omega) kp
/-- what a lambda x: y[x] is, and what it reads -/
structure LamAt (h : Heap) (f : Addr) (x y : Str) (q : Str) (params : Arguments) (p1 p2 p3 : Pos) (scope : Scope) (cl : List (Str × Addr)) (pm ctv : Value) (c' ck l : Addr) (us : List Value) : Prop where
  fn : h.get? f = some (PySem.W.kla_obj "<lambda>" q params (.Subscript (.Name y p1) (.Name x p2) p3) scope cl pm c' ctv)
  code : ∃ (oc : Obj) (us : Array Value) (tk : Tok), h.get? c' = some oc ∧ oc.data = .fields us ∧ us[1]? = some (.str q tk)
  lim : h.NoLimit
  hck : cl.lookup y = some ck
  cell : h.IsCell ck (some (.ref l))
  lst : h.IsList l us.toArray
theorem LamAt.keeps {h h' : Heap} {f : Addr} {x y : Str} {q : Str} {params : Arguments} {p1 p2 p3 : Pos} {scope : Scope} {cl : List (Str × Addr)} {pm ctv : Value} {c' ck l : Addr} {us : List Value}
    (L : LamAt h f x y q params p1 p2 p3 scope cl pm ctv c' ck l us) (k : ∀ b o, h.get? b = some o → h'.get? b = some o) : LamAt h' f x y q params p1 p2 p3 scope cl pm ctv c' ck l us :=
  ⟨k _ _ L.fn, let ⟨oc, us, tk, a, b, c⟩ := L.code; ⟨oc, us, tk, k _ _ a, b, c⟩, L.lim.keeps k, L.hck, L.cell.keeps k, L.lst.at fun o e => k _ _ e⟩
theorem min_lam {f a l c' ck : Addr} {q x y : Str} {params : Arguments} {p1 p2 p3 : Pos} {scope : Scope} {cl : List (Str × Addr)} {pm ctv : Value} {cs us : List Value} {ns : Nat → Int} {kf : Nat → Int} {Q : Value → Shared → Prop}
    (hh : A.handled = none) (S : LSc scope x y) (hd : A.depth < recursionLimit) (L : LamAt s.heap f x y q params p1 p2 p3 scope cl pm ctv c' ck l us)
    (hbind : ∀ v : Value, bindArgs (PySem.W.kla_fn "<lambda>" q params (.Subscript (.Name y p1) (.Name x p2) p3) scope cl pm (.ref c') ctv) ⟨[v], []⟩ = pure [(x, v)])
    (hdx : (x == ("__debug__" : Str)) = false) (hdy : (y == ("__debug__" : Str)) = false) (hcy : (y == ("__classdict__" : Str)) = false)
    (ht : s.heap.IsTuple a cs.toArray) (hc : ∀ i, i < cs.length → ∃ t, cs[i]? = some (.int (ns i) t)) (hne : 0 < cs.length)
    (hk : ∀ i, i < cs.length → 0 ≤ ns i ∧ ns i < 2 ^ 63 ∧ ∃ t, us[(ns i).toNat]? = some (.int (kf i) t))
    (h : ∀ v h' tk, cs[argBest (fun i j => decide (kf i < kf j)) (cs.length - 1)]? = some v → (∀ b o, s.heap.get? b = some o → h'.get? b = some o) → Q v { s with heap := h', toks := tk }) :
    wpAny (model prog w) A (call (.builtin "min") [.ref a] [(Str.ofString "key", .ref f)]) Q E s := by
  have hd1 : A.in1.depth < recursionLimit := hd
  refine call_min_walkK (PySem.W.iter_tupleW (A := A.in1) hh ht fun s₂ e2 W st hfp hfr kp2 => ?_)
  have sz2 : s.heap.objs.size < s₂.heap.objs.size := hfp _ List.mem_cons_self
  have old : ∀ {s' : Shared}, Moved [s₂.heap.objs.size, s.heap.objs.size] (fun a b => b = a) s₂ s' → ∀ b o, s.heap.get? b = some o → s'.heap.get? b = some o := fun {s'} m b o e => by
    have lt := Heap.lt_size e
    refine m.heap b o (fun hm => ?_) (kp2 b o e)
    rcases List.mem_cons.mp hm with z | hm
    · rw [z] at lt
      exact Nat.lt_irrefl _ (Nat.lt_trans lt sz2)
    · rw [List.mem_singleton.mp hm] at lt
      exact Nat.lt_irrefl _ lt
  have szc : cs.toArray.size = cs.length := by simp
  refine ⟨s.heap.objs.size, [s.heap.objs.size, a], [s.heap.objs.size], (fun a b => b = a), cs.toArray.size, _, _, fun s' => Moved [s₂.heap.objs.size, s.heap.objs.size] (fun a b => b = a) s₂ s', fun i k _ => ∃ t, k = .int (kf i) t, fun i j => decide (kf i < kf j), rfl, W, st, hfp, by rw [szc]; exact hne, ⟨?_, ?_, ?_, ?_⟩, Moved.refl fun _ => rfl, ?_⟩
  · exact fun s1 s' J m => J.trans (fun _ _ _ h1 h2 => h2.trans h1) m
  · exact fun i k s1 s' v _ => v
  · intro i v s1 o Q' E' hi hP J stI hS cont
    rw [szc] at hi
    obtain ⟨t, ec⟩ := hc i hi
    have ev : v = .int (ns i) t := by
      have hP' : cs[i]? = some v := by simpa using hP
      rw [ec] at hP'
      exact (Option.some.inj hP').symm
    subst ev
    obtain ⟨h0, h1, tk, eu⟩ := hk i hi
    have L1 := L.keeps (old J)
    refine lam_ix S hd1 L1.fn hbind L1.code L1.lim L1.hck L1.cell L1.lst h0 h1 eu hdx hdy hcy fun h' tk' hle kp => ?_
    exact cont _ _ (J.then_heap hle fun b o _ e => kp b o e) (W.frame _ s1 h' tk' stI hle fun b _ o e => kp b o e) (kp _ _ hS) ⟨_, rfl⟩ fun j k' z => z
  · intro i j ki kj s1 Q' E' J vi vj q
    exact CmpOf.ints_lt (prog := prog) (w := w) (A := A.in1) (P := fun i v => ∃ t, v = .int (kf i) t) kf (fun i v h => h) i j ki kj s1 Q' E' vi vj q
  · intro v s' hP J
    rw [szc] at hP
    have hP' : cs[argBest (fun i j => decide (kf i < kf j)) (cs.length - 1)]? = some v := by simpa using hP
    have e : s' = { s with heap := s'.heap, toks := s'.toks } := by
      obtain ⟨hp, g, d, tk, os⟩ := s'
      subst e2
      have h1 : g = s.gens := J.gens
      have h2 : d = s.drawn := J.drawn
      have h3 : os = s.os := J.os
      subst h1 h2 h3
      rfl
    rw [e]
    exact h v s'.heap s'.toks hP' (old J)
end
/-- the first of the least -/
def FirstLeast (kf : Nat → Int) (n j : Nat) : Prop := j < n ∧ (∀ i, i < n → kf j ≤ kf i) ∧ ∀ i, i < j → kf j < kf i
theorem best_is (kf : Nat → Int) : ∀ n, FirstLeast kf (n + 1) (argBest (fun i j => decide (kf i < kf j)) n)
  | 0 => ⟨Nat.zero_lt_one, fun i h => by rw [Nat.lt_one_iff.mp h]; exact Int.le_refl _, fun i h => nomatch h⟩
  | n + 1 => by
    obtain ⟨a, b, c⟩ := best_is kf n
    show FirstLeast kf (n + 2) (if decide (kf (n + 1) < kf (argBest (fun i j => decide (kf i < kf j)) n)) = true then n + 1 else argBest (fun i j => decide (kf i < kf j)) n)
    by_cases h : kf (n + 1) < kf (argBest (fun i j => decide (kf i < kf j)) n)
    · rw [if_pos (decide_eq_true h)]
      refine ⟨by omega, fun i hi => ?_, fun i hi => ?_⟩
      · by_cases e : i = n + 1
        · rw [e]
          exact Int.le_refl _
        · have := b i (by omega)
          omega
      · have := b i (by omega)
        omega
    · rw [if_neg (fun z => h (of_decide_eq_true z))]
      refine ⟨by omega, fun i hi => ?_, c⟩
      by_cases e : i = n + 1
      · rw [e]
        omega
      · exact b i (by omega)
theorem first_one {kf : Nat → Int} {n i j : Nat} (a : FirstLeast kf n i) (b : FirstLeast kf n j) : i = j := by
  rcases Nat.lt_trichotomy i j with h | h | h
  · have h1 := b.2.2 i h
    have h2 := a.2.1 j b.1
    omega
  · exact h
  · have h1 := a.2.2 j h
    have h2 := b.2.1 i a.1
    omega
/-- the item of ns whose key in ks is the least, the first such one -/
def LeastAt (ks ns : List Int) (m : Int) : Prop := ∃ j, FirstLeast (fun i => ks.getD (ns.getD i 0).toNat 0) ns.length j ∧ m = ns.getD j 0
theorem _root_.LamX.ExtN.rd {H H' : Hp} (e : ExtN H H') {a : Addr} {u : HO} (n : ∀ ps, u ≠ .tbl ps) (h : Rd H a u) : Rd H' a u := by
  rcases h with h | ⟨o, h⟩
  · exact .inl (e _ _ h n)
  · exact .inr ⟨o, e _ _ h fun ps z => nomatch z⟩
theorem _root_.LamX.ExtN.sqL {K : PySem.W.Frag} {H H' : Hp} (e : ExtN H H') {a : Addr} {xs : List V} (h : SqL K H a xs) : SqL K H' a xs := h.elim (fun h => .inl (e.rd (fun ps z => nomatch z) h)) .inr
theorem _root_.LamX.ExtN.sqT {K : PySem.W.Frag} {H H' : Hp} (e : ExtN H H') {a : Addr} {xs : List V} (h : SqT K H a xs) : SqT K H' a xs := h.elim (fun h => .inl (e.rd (fun ps z => nomatch z) h)) .inr
section
variable {X : Cx}
def tMinLam (K : PySem.W.Frag) (T : List (Addr × Str)) (j : Nat) (te : TE) : TE := fun σ H Q => te σ H fun v H1 => ∃ (a l : Addr) (ns ks : List Int), v = .ref a ∧ SqT K H1 a (ns.map V.int) ∧ σ[j]? = some (some (.ref l)) ∧ SqL K H1 l (ks.map V.int) ∧ 0 < ns.length ∧ (∀ n ∈ ns, 0 ≤ n ∧ n < ks.length) ∧
  Tabs T H1 ∧ ∀ (m : Int) (H2 : Hp), ExtN H1 H2 → Tabs T H2 → LeastAt ks ns m → Q (.int m) H2
/-- min(e, key=lambda x: y[x]), y a name of the def that it shares with the lambda -/
theorem pe_minlam {T : List (Addr × Str)} {c P : Addr} {p p1 p2 p3 lpos kpos pos : Pos} {e : Expr} {te : TE} {x y : Str} {j : Nat} {params : Arguments} {scope : Scope}
    (hg : Gl X "min") (hm : X.mg "min" = none) (he : PE X e te) (hd : X.A.depth < recursionLimit) (hh : X.A.handled = none) (TB : TabB X.base X.mg c P) (hcode : X.env.code = .ref c) (hmT : (P, X.env.qual ++ "<lambda>") ∈ T)
    (hu : ∀ q ∈ T, q.1 = P → q.2 = X.env.qual ++ "<lambda>") (S : LSc scope x y) (hfy : X.env.scope.names.lookup y = some .cell) (hfr : ∀ z ∈ scope.names, z.2 = .free → z.1 = y) (hN : X.N[j]? = some y) (hdef : defaultsOf params X.env = ([], []))
    (hbind : ∀ (q : Str) (cl : List (Str × Addr)) (pm cv ctv v : Value), bindArgs (PySem.W.kla_fn "<lambda>" q params (.Subscript (.Name y p1) (.Name x p2) p3) scope cl pm cv ctv) ⟨[v], []⟩ = pure [(x, v)])
    (hs : starEach [e] X.env = (false, eval e X.env) :: starEach [] X.env := by rfl)
    (hdx : (x == ("__debug__" : Str)) = false := by decide) (hdy : (y == ("__debug__" : Str)) = false := by decide) (hcy : (y == ("__classdict__" : Str)) = false := by decide) :
    PE X (.Call (.Name "min" p) [e] [⟨some "key", .Lambda params (.Subscript (.Name y p1) (.Name x p2) p3) scope lpos, kpos⟩] pos) (tMinLam X.K T j te) := by
  refine ⟨fun pins s σ H Q I h => ?_⟩
  have hfree : ∀ z ∈ scope.names, z.2 = .free → ∃ c, X.env.cells.lookup z.1 = some c := fun z hz e => I.ok.has _ (.inl (by rw [hfr z hz e]; exact hfy))
  refine wpAny_Call_Name_kw (ld_blt I hg hm (u := .builtin "min") (by decide +kernel) ?_)
  refine PyProof.Rows.callWith_kw ?_ (by rw [hs]; rfl) (by rw [hs]; rfl) (by rfl) (by rfl)
  rw [hs]
  show wpAny _ _ (spliced ((false, eval e X.env) :: backTo pos (starEach [] X.env))) _ _ s
  refine Calls.spliced_cons (thn (he.run pins s σ H _ I h) fun u s1 ⟨v, H1, I1, r1, a, l, ns, ks, ev, ht, hσ, hl, hne, hin, hT, q⟩ => Calls.spliced_nil ?_)
  subst ev
  obtain rfl : u = Value.ref a := r1
  show wpAny _ _ (evalAll ((do let v ← eval (.Lambda params (.Subscript (.Name y p1) (.Name x p2) p3) scope lpos) X.env; standAt pos; pure v) :: [])) _ _ s1
  refine wpAny_evalAll_cons (wpAny_bind (lam_make2 I1 TB hcode hmT hu hT hdef hfree fun f c' pm ctv H2 s2 I2 eN T2 hf hfn hff hco => wpAny_bind (wpAny_standAt (wpAny_pure (wpAny_evalAll_nil ?_)))))
  show wpAny _ _ (call (.builtin "min") [.ref a] [(Str.ofString "key", .ref f)]) _ _ s2
  obtain ⟨cs, rc, tc, _⟩ := I2.tuple (eN.sqT ht)
  obtain ⟨us, ru, pl, hz2⟩ := I2.list (eN.sqL hl)
  obtain ⟨m, _, look⟩ := I2.loc
  obtain ⟨u0, r0, lk⟩ := look j y _ hN hσ (.inr (.inl hfy))
  obtain rfl : u0 = Value.ref l := r0
  have cellAt : ∃ ck, X.env.cells.lookup y = some ck ∧ s2.heap.IsCell ck (some (.ref l)) := by
    rcases lk with ⟨k, _⟩ | ⟨_, ck, e1, e2⟩
    · rw [show X.env.kindOf y = some .cell from hfy] at k
      cases k
    · exact ⟨ck, e1, e2⟩
  obtain ⟨ck, eck, hcell⟩ := cellAt
  obtain ⟨⟨oc, vs, tk, o1, o2, o3⟩, _, _⟩ := I2.hok c' _ hco
  have lc : cs.length = ns.length := by rw [← rc.length, List.length_map]
  have lu : us.length = ks.length := by rw [← ru.length, List.length_map]
  have nsAt : ∀ i, i < ns.length → ∃ t, cs[i]? = some (.int (ns.getD i 0) t) := fun i hi => by
    obtain ⟨z, ez, rz⟩ := rc.get (i := i) (x := V.int (ns.getD i 0)) (by rw [List.getElem?_map, List.getD_eq_getElem?_getD, List.getElem?_eq_getElem hi]; rfl)
    obtain ⟨t, rfl⟩ := rz
    exact ⟨t, ez⟩
  refine min_lam (ns := fun i => ns.getD i 0) (kf := fun i => ks.getD (ns.getD i 0).toNat 0) hh S hd ⟨hf, ⟨oc, vs, tk, o1, o2, o3⟩, I2.nolimit, NdefX.clo_has hfree (PySem.mem_of_lookup S.fy) eck, hcell, pl.isList⟩ (fun v => hbind _ _ _ _ _ v) hdx hdy hcy tc (fun i hi => nsAt i (by omega)) (by omega)
    (fun i hi => ?_) fun v h' tk2 hv kp => ?_
  · have hi' : i < ns.length := by omega
    have hmem : ns.getD i 0 ∈ ns := by rw [List.getD_eq_getElem?_getD, List.getElem?_eq_getElem hi']; exact List.getElem_mem hi'
    obtain ⟨b0, b1⟩ := hin _ hmem
    have hs63 := line63
    rw [List.length_map] at hz2
    have hk' : (ns.getD i 0).toNat < ks.length := by omega
    obtain ⟨z, ez, rz⟩ := ru.get (i := (ns.getD i 0).toNat) (x := V.int (ks.getD (ns.getD i 0).toNat 0)) (by rw [List.getElem?_map, List.getD_eq_getElem?_getD (l := ks), List.getElem?_eq_getElem hk']; rfl)
    obtain ⟨t, rfl⟩ := rz
    exact ⟨b0, by omega, t, ez⟩
  · obtain ⟨n, en⟩ : ∃ n, ns.length = n + 1 := ⟨ns.length - 1, by omega⟩
    have fl := best_is (fun i => ks.getD (ns.getD i 0).toNat 0) n
    rw [← en] at fl
    rw [lc, show ns.length - 1 = n by omega] at hv
    obtain ⟨t, et⟩ := nsAt _ fl.1
    rw [et] at hv
    cases hv
    exact ⟨.int _, H2, I2.kept kp, ⟨t, rfl⟩, q _ H2 eN T2 ⟨_, fl, rfl⟩⟩
end
end Cl

set_option Elab.async false
set_option linter.all false
set_option maxRecDepth 100000
set_option maxHeartbeats 2000000
/-! own rule: list(o), o an instance with an __iter__ over its tuple and a __len__ -/
namespace Tw
open PySem PySem.Spec PyProof.Rows L2
def rListO (K : PySem.W.Frag) (C : Addr) (fld : Str) (sp : Sp) (E : XK) : List V → Hp → VK → Prop := fun xs H Q => ∃ (a dx : Addr) (fs : List (Str × V)) (t : Addr) (zs : List V), xs = [.ref a] ∧ H a = some (.ins C dx fs) ∧ fs.lookup fld = some (.ref t) ∧ SqT K H t zs ∧ zs.length ≤ 900 ∧
  sp [.ref a] H (fun v H' => ∃ n : Nat, v = .int n ∧ n < 1000 ∧ H' = H) E ∧ ∀ q, H q = none → Q (.ref q) (upd H q (.lst zs))
theorem ty_ne {a b : String} (h : Value.type a = Value.type b) (n : decide (a = b) = false) : False := by
  injection h with h
  exact of_decide_eq_false n h
theorem if_yes {α : Type} {M : Model} {A : Around} {E : Value → Shared → Prop} {s : Shared} {c : Bool} {a b : Sem α} {Q : α → Shared → Prop} (hc : c = true) (h : wpAny M A a Q E s) : wpAny M A (if c = true then a else b) Q E s := by
  rw [hc, if_pos rfl]
  exact h
section
variable {X : Cx} {k : Nat} {f : Addr} {fd : FuncData} {ps : List Str} {sp : Sp} {A1 : Around} {pins : List (Addr × Obj)} {σ : L2.St} {H : Hp} {s : Shared} {Q : VK}
/-- a def that raises nothing, called within a built-in -/
theorem run_sub0 {us : List Value} {vs : List V} {R : Value → Shared → Prop} (F : FnOk X.prog X.w X.K X.mg X.base CX0 k f fd ps sp) (sb : Sub X k A1) (hb : L2.Binds X.K fd ps []) (I : Inv X pins σ H s) (r : Vals vs us) (h : sp vs H Q E0) :
    wpAny (model X.prog X.w) A1 (call (.ref f) us) (EP X pins σ Q) R s := by
  have hl : us.length = ps.length := by rw [← r.length]; exact F.len _ _ _ _ h
  have hb1 : BindsTo s fd ⟨us, []⟩ (ps.zip us) := by
    have z := hb s us I.kIn (by rw [List.append_nil]; exact hl)
    rw [List.append_nil] at z
    exact z
  refine wpAny_call (codeAny_mono (F.run A1 X.stack s H ⟨us, []⟩ us vs Q E0 sb.room (Sub.env0 sb I) hb1 r h) fun z s' hq => ?_)
  match z, hq with
  | .error e, hq => exact False.elim hq
  | .ok (.ret u), hq => exact I.after hq
  | .ok .next, hq => exact False.elim hq
  | .ok .brk, hq => exact False.elim hq
  | .ok .cont, hq => exact False.elim hq
end
section
variable {X : Cx} {kI k : Nat} {fi fl C : Addr} {fdI fdL : FuncData} {psL : List Str} {spL : Sp} {fld : Str}
theorem call_listO (hdI : Dn X.K C "__iter__" fi) (FI : FnIt X.prog X.w X.K X.mg X.base k fi fdI ["self"] (spIter X.K C fld)) (bI : L2.Binds X.K fdI ["self"] [])
    (hdL : Dn X.K C "__len__" fl) (FL : FnOk X.prog X.w X.K X.mg X.base CX0 k fl fdL psL spL) (bL : L2.Binds X.K fdL psL []) (hr : Room (k + 3) X.A) : CallR X (.type "list") (rListO X.K C fld spL E0) := by
  intro pins s σ H xs us Q I rv h
  obtain ⟨a, dx, fs, t, zs, rfl, ha, hf, ht, hz, hlen, q⟩ := h
  obtain ⟨u, rfl, ru⟩ := rv.one
  cases ru
  have sb1 : Sub X (k + 1) X.A.in1.in1 := Sub.in1 (Sub.in1 (⟨hr, rfl⟩ : Sub X (k + 3) X.A))
  have sb : Sub X k X.A.in1.in1 := sb1.mono (Nat.le_succ k)
  refine callType_codes (Q₁ := fun obj s₁ => obj = .ref s.heap.objs.size ∧ s₁ = { s with heap := s.heap.push { cls := .type "list", data := .seq #[] } }) PySem.F.called_list (PySem.F.typeCall_list_1 _) PySem.F.entry_list_init
    (code_list_new _ ⟨rfl, rfl⟩) fun obj s₁ h₁ => ?_
  obtain ⟨rfl, rfl⟩ := h₁
  have hS : (s.heap.push { cls := .type "list", data := .seq #[] }).get? s.heap.objs.size = some { cls := .type "list", data := .seq #[] } := Heap.get?_push_size _ rfl
  refine ⟨⟨_, hS, rfl⟩, PySem.F.args_list_init_2 _ _, ?_⟩
  have nS : H s.heap.objs.size = none := I.hok.fresh (Nat.le_refl _)
  have fS : FpOk X pins H s.heap.objs.size := I.fpOk (Nat.le_refl _) nS
  have I1 : Inv X pins σ H { s with heap := s.heap.push { cls := .type "list", data := .seq #[] } } := I.kept (t' := s.toks) fun b u e => Heap.get?_push_of_some _ e
  show wpAny _ _ (do let old ← Builtin.List.listItems (.ref s.heap.objs.size); Builtin.List.listUpdate (.ref s.heap.objs.size) (fun _ => #[]); letGo old.toList.reverse; Builtin.List.listExtendWith (.ref s.heap.objs.size) (.ref a) .none) _ _ _
  refine wpAny_bind ?_
  unfold Builtin.List.listItems
  refine wpAny_bind (wpAny_seqItems hS rfl (wpAny_pure ?_))
  show wpAny _ _ (updateSeq s.heap.objs.size (fun _ => #[]) >>= fun _ => letGo (#[] : Array Value).toList.reverse >>= fun _ => Builtin.List.listExtendWith (.ref s.heap.objs.size) (.ref a) .none) _ _ _
  refine wpAny_bind (wpAny_updateSeq hS rfl ?_)
  have hS2 := Heap.get?_update_self (h := s.heap.push { cls := .type "list", data := .seq #[] }) (f := Obj.mapSeq fun _ => #[]) hS rfl
  have I2 := I1.turnedL (h' := (s.heap.push { cls := .type "list", data := .seq #[] }).update s.heap.objs.size (Obj.mapSeq fun _ => #[])) (t' := s.toks) (ch := [s.heap.objs.size]) (fun b o hb e => (Heap.get?_update_other _ _ (fun z => hb (by simp [z]))).trans e) (fun b hb => by rw [List.mem_singleton.mp hb]; exact fS)
  refine wpAny_bind (wpAny_letGo ?_)
  generalize hSa : s.heap.objs.size = S at *
  generalize hh2 : (s.heap.push { cls := .type "list", data := .seq #[] }).update S (Obj.mapSeq fun _ => #[]) = h2 at *
  have szS : S < h2.objs.size := Heap.lt_size hS2
  obtain ⟨mA, O, rr, _, _, _⟩ := ins_get I2.hok ha
  obtain ⟨od, J, hl⟩ := O.look
  obtain ⟨m0, hF⟩ := I2.fr
  have hne : S ≠ a := fun z => by rw [← z] at ha; rw [nS] at ha; cases ha
  have h1 : Builtin.List.listSameRef (.ref S) (.ref a) = false := by simp [Builtin.List.listSameRef, hne]
  unfold Builtin.List.listExtendWith
  refine wpAny_bind (J.type.here ?_)
  have n2 : (Value.ref C == Value.type "list") = false := rfl
  have n3 : (Value.ref C == Value.type "tuple") = false := rfl
  simp only [h1, n2, n3, Bool.or_false, Bool.false_eq_true, if_false]
  have I2p := I2.pinned (fp := [S]) (fun b hb => by rw [List.mem_singleton.mp hb]; exact fS) (fun b hb => by rw [List.mem_singleton.mp hb]; exact ⟨_, hS2, fun v z => nomatch z⟩)
  refine wpAny_bind (PySem.W.owit_iter hF I2.ok.mod.kin J hdI.at_ hdI.fn (thn (run_iter FI sb bI I2p ha hf ht) fun r s3 ⟨it, er, hn, h0, I3⟩ => ?_))
  subst er
  have e2 : upd H it (ItT t it 0) it = some (ItT t it 0) := upd_same
  have g : s3.heap.get? it = some (itTup t 0) := (I3.hok it _ e2).1
  have hS3 := (I3.pin (S, _) (List.mem_append_right _ (List.mem_append_right _ (mem_pinsAt (List.mem_singleton.mpr rfl) hS2)))).1
  have hTy : s3.TypeIs (.ref it) "tuple_iterator" := ⟨_, g, rfl⟩
  have fIt := ItX.inv_fp I3 e2 (Nat.le_trans I2.sz hn)
  have I4 := ItX.inv_drop I3 e2
  rw [ItX.dropH_upd h0] at I4 fIt
  unfold PySem.W.OwitIt
  refine wpAny_specialOf (name := Str.ofString "__next__") hTy PySem.F.slot_tuple_iterator_next.lookup ?_
  have I5 := I4.pinned (fp := [it]) (fun b hb => by rw [List.mem_singleton.mp hb]; exact fIt) (fun b hb => by rw [List.mem_singleton.mp hb]; exact ⟨_, g, fun v z => nomatch z⟩)
  show wpAny _ X.A.in1.in1 (holding [.ref it] (Builtin.List.listLengthHint (.ref a)) >>= _) _ _ s3
  obtain ⟨mA5, O5, rr5, _, _, _⟩ := ins_get I5.hok ha
  obtain ⟨od5, J5, hl5⟩ := O5.look
  obtain ⟨m5, hF5⟩ := I5.fr
  refine wpAny_bind (wpAny_holding ?_)
  have lenOk : ∀ {R : Value → Shared → Prop}, wpAny (model X.prog X.w) X.A.in1.in1 (call (.builtin "len") [.ref a]) (fun r s' => ∃ (n : Nat) (tk : Tok), r = .int n tk ∧ n < 1000 ∧ Inv X (pins ++ pinsAt [S] h2 ++ pinsAt [it] s3.heap) σ H s') R s3 := by
    intro R
    refine PySem.W.len_K hF5 I5.ok.mod.kin J5 hdL.at_ hdL.fn (thn (run_sub0 FL (Sub.in1 (Sub.mono sb1 (Nat.le_refl _))) bL I5 (.cons (relR a) .nil) hlen) fun r s' ⟨z, H', I', rz, n, ez, hn, eH⟩ => ?_)
    subst ez
    rw [eH] at I'
    obtain ⟨tk, rfl⟩ := rz
    exact ⟨⟨by omega, by omega⟩, n, _, rfl, hn, I'.tok _⟩
  unfold Builtin.List.listLengthHint
  refine wpAny_bind (wpAny_bind (J5.type.here ((PySem.W.looks_findIn I5.kIn hdL.at_).here ?_)))
  refine PySem.W.KFB.if_not rfl ?_
  refine if_yes rfl ?_
  refine wpAny_bind (wpAny_rule ?_)
  refine wpAny_bind (wpAny_attempt (thn lenOk fun r s6 ⟨n, tk, er, hn6, I6⟩ => ?_))
  subst er
  refine wpAny_bind (wpAny_of_eq (a := some ((n : Nat) : Int)) (by rfl) ?_)
  refine PySem.W.KFB.if_not (by unfold Builtin.List.listTooLong; exact decide_eq_false (by rw [sizeLine_eq, Int.toNat_natCast]; omega)) ?_
  refine wpAny_pure ?_
  -- the loop
  have I7 : Inv X pins σ H s6 := I6.unpinned.unpinned
  have hS6 := (I6.pin (S, _) (List.mem_append_right _ (List.mem_append_left _ (List.mem_append_right _ (mem_pinsAt (List.mem_singleton.mpr rfl) hS2))))).1
  have g6 := (I6.pin (it, _) (List.mem_append_right _ (List.mem_append_right _ (mem_pinsAt (List.mem_singleton.mpr rfl) g)))).1
  have fIt2 : FpOk X pins H it := ⟨fIt.1, fIt.2.1, fIt.2.2.1, fIt.2.2.2.1, fIt.2.2.2.2.1, fun p hp => fIt.2.2.2.2.2 p ((List.mem_append.mp hp).elim (fun z => List.mem_append_left _ z) fun z => List.mem_append_right _ (List.mem_append_left _ z))⟩
  have Sne' : S ≠ it := fun z => by
    rw [z, g6] at hS6
    exact ty_ne (show Value.type "tuple_iterator" = Value.type "list" from congrArg Obj.cls (Option.some.inj hS6)) (by decide +kernel)
  have loop : ∀ (s7 : Shared) (c : Nat), Inv X pins σ H s7 → s7.heap.get? S = some { cls := .type "list", data := .seq #[] c } → s7.heap.get? it = some (itTup t 0) →
      codeAny (model X.prog X.w) X.A.in1 (.builtin "list.extend.loop" ⟨[.ref S, .ref it, .none], []⟩) (wants (fun r s₂ => r = .none ∧ EP X pins σ Q (.ref S) s₂) X.xe) s7 := by
    intro s7 c J7 hS7 g7
    obtain ⟨its, rz, pl, hz2⟩ := J7.tuple ht
    have tne : t ≠ it := fun z => by
      obtain ⟨o, e1, e2, _⟩ := pl
      rw [z, g7] at e1
      rw [← Option.some.inj e1] at e2
      exact ty_ne (show Value.type "tuple_iterator" = Value.type "tuple" from e2) (by decide +kernel)
    have Sne : S ≠ it := fun z => by
      rw [z, g7] at hS7
      exact ty_ne (show Value.type "tuple_iterator" = Value.type "list" from congrArg Obj.cls (Option.some.inj hS7)) (by decide +kernel)
    have St : S ≠ t := fun z => by
      obtain ⟨o, e1, e2, _⟩ := pl
      rw [← z, hS7] at e1
      rw [← Option.some.inj e1] at e2
      exact ty_ne (show Value.type "list" = Value.type "tuple" from e2) (by decide +kernel)
    have li : its.length = zs.length := rz.length.symm
    have W := (PySem.Walks.tuple (prog := X.prog) (w := X.w) (A := X.A.in1.in1) sb1.room.hd it t tne its.toArray).toS
    refine PySem.codeAny_extend_loopS (A := X.A.in1) W (by rw [List.size_toArray, sizeLine_eq]; omega) S (fun z => ?_) .none _ 0 s7 #[] c rfl (Nat.zero_le _) ⟨⟨_, g7, rfl, rfl⟩, pl⟩ hS7 (PySem.ItemsOf.nil _) fun s8 acc c8 m hS8 hit => ?_
    · rcases List.mem_cons.mp z with z | z
      · exact Sne z
      · exact St (List.mem_singleton.mp z)
    have eacc : acc = its.toArray := by
      refine Array.ext_getElem? fun j => ?_
      by_cases hj : j < acc.size
      · rw [Array.getElem?_eq_getElem hj]
        exact (hit.2 j _ (Array.getElem?_eq_getElem hj)).symm
      · rw [Array.getElem?_eq_none (by omega), Array.getElem?_eq_none (by rw [← hit.1]; omega)]
    subst eacc
    have J8 := J7.turnedL (h' := s8.heap) (t' := s8.toks) (ch := [S, it]) (fun b o hb e => m.heap b o hb e) (fun b hb => by
      rcases List.mem_cons.mp hb with z | z
      · rw [z]; exact fS
      · rw [List.mem_singleton.mp z]; exact fIt2)
    have J9 := J8.take (h' := s8.heap) (t' := s8.toks) (it := S) (o := .lst zs) (fun _ _ _ e => e) fS ⟨by rw [sizeLine_eq]; omega, its, c8, rz, hS8⟩
    have e8 : s8 = { s7 with heap := s8.heap, toks := s8.toks } := Moved.eq_with m
    rw [e8]
    exact ⟨rfl, .ref S, _, J9, rfl, q S nS⟩
  refine wpAny_ite_split (fun _ => ?_) (fun _ => wpAny_pure ⟨plainId_quiet PySem.F.plain_extend_loop _, loop s6 _ I7 hS6 g6⟩)
  refine wpAny_bind (wpAny_rule ?_)
  refine wpAny_bind ?_
  show wpAny _ _ (updateSeq S (·.push .none) >>= fun _ => updateSeq S (·.pop)) _ _ _
  refine wpAny_bind (wpAny_updateSeq hS6 rfl ?_)
  have e9 := Heap.get?_update_self (h := s6.heap) (f := Obj.mapSeq (·.push Value.none)) hS6 rfl
  refine wpAny_updateSeq e9 rfl ?_ (by show 1 ≤ sizeLine; rw [sizeLine_eq]; decide) (by show 0 ≤ sizeLine + 1; exact Nat.zero_le _)
  have e10 := Heap.get?_update_self (h := s6.heap.update S (Obj.mapSeq (·.push Value.none))) (f := Obj.mapSeq (·.pop)) e9 rfl
  have J := I7.turnedL (h' := (s6.heap.update S (Obj.mapSeq (·.push Value.none))).update S (Obj.mapSeq (·.pop))) (t' := s6.toks) (ch := [S]) (fun b o hb e => (Heap.get?_update_other _ _ (fun z => hb (by simp [z]))).trans ((Heap.get?_update_other _ _ (fun z => hb (by simp [z]))).trans e)) (fun b hb => by rw [List.mem_singleton.mp hb]; exact fS)
  refine wpAny_pure ⟨plainId_quiet PySem.F.plain_extend_loop _, loop _ _ J e10 ?_⟩
  exact (Heap.get?_update_other _ _ Sne').trans ((Heap.get?_update_other _ _ Sne').trans g6)
end
end Tw

set_option Elab.async false
set_option linter.all false
set_option maxRecDepth 100000
set_option maxHeartbeats 2000000
/-! own rule: sorted(t), t a tuple of whole numbers -/
namespace Tw
open PySem PySem.Spec PyProof.Rows L2
section
variable {prog : Program} {w : World} {A : Around} {E : Value → Shared → Prop} {s : Shared}
/-- a tuple's items, gathered: they are met as a list's are -/
theorem gather_tup {t : Addr} {vs : List Value} {Q : List Value → Shared → Prop} (ht : s.heap.IsTuple t vs.toArray)
    (h : Q vs { s with heap := (s.heap.push (seqObj "list" #[] 0)).update s.heap.objs.size (Obj.mapSeq (· ++ vs.toArray)) }) (hz : vs.length ≤ sizeLine) :
    wpAny (model prog w) A (collect (.ref t)) Q E s := by
  obtain ⟨o, ho, hc, n, hd⟩ := ht
  unfold collect
  refine wpAny_bind (wpAny_runValue (codeAny_builtin entry_proto_collect' ?_))
  show wpAny _ _ (do again (.builtin "list.__iadd__" ⟨[← newList [], .ref t], []⟩)) _ _ s
  refine wpAny_bind (wpAny_newList (wpAny_pure ⟨Code.quiet_builtin _ (by decide +kernel), codeAny_builtin entry_list_iadd' ?_⟩))
  show wpAny _ _ (Builtin.List.listExtendWith (.ref s.heap.objs.size) (.ref t) (.ref s.heap.objs.size)) _ _ { s with heap := s.heap.push (seqObj "list" #[] 0) }
  have ho2 : (s.heap.push (seqObj "list" #[] 0)).get? t = some o := Heap.get?_push_of_some _ ho
  unfold Builtin.List.listExtendWith
  refine wpAny_bind (wpAny_typeOf (T := "tuple") ⟨o, ho2, hc⟩ ?_)
  have tt : (Value.type "tuple" == Value.type "tuple") = true := by rfl
  rw [if_pos (by rw [tt]; simp)]
  refine wpAny_bind (listItems_at ho2 hd ?_)
  refine wpAny_bind (listItems_at (xs := #[]) (n := 0) (Heap.get?_push_size _ rfl) rfl ?_)
  rw [if_neg (by simp)]
  refine wpAny_bind (listUpdate_at (xs := #[]) (n := 0) (Heap.get?_push_size _ rfl) rfl ?_ (Nat.zero_le _) (by show (#[] ++ vs.toArray).size ≤ sizeLine + 1; simp only [Array.size_append, List.size_toArray, List.length_nil]; omega))
  refine wpAny_pure ?_
  refine wpAny_bind (wpAny_load (get?_update_seq (Heap.get?_push_size _ rfl) _) ?_)
  show wpAny _ _ (pure ((#[] : Array Value) ++ vs.toArray).toList) Q E _
  rw [show ((#[] : Array Value) ++ vs.toArray).toList = vs by simp]
  exact wpAny_pure h
end
def rSortedTu (K : PySem.W.Frag) : List V → Hp → VK → Prop := fun vs H Q => ∃ (a : Addr) (ns : List Int), vs = [V.ref a] ∧ SqT K H a (ns.map V.int) ∧
  ∀ (ns' : List Int) (p : Addr), ns'.Perm ns → ns'.Pairwise (· ≤ ·) → H p = none → Q (.ref p) (upd H p (.lst (ns'.map V.int)))
section
variable {X : Cx}
theorem cr_sortedTu : CallR X (.builtin "sorted") (rSortedTu X.K) := by
  intro pins s σ H vs us Q I r h
  obtain ⟨a, ns, rfl, hs, q⟩ := h
  obtain ⟨its, rv, hl, hz⟩ := I.tuple hs
  rw [Vals.ref1 r]
  have hi := rv.ints
  have hzi : its.length ≤ sizeLine := by rw [← rv.length]; exact hz
  refine Calls.call_function_entry kind_sorted plain_sorted entry_sorted (args_sorted1 _) ?_
  unfold Builtin.«sorted»
  refine wpAny_bind (m := checkCount "sorted" 1 1 _) (wpAny_pure ?_)
  refine wpAny_bind (gather_tup hl ?_ hzi)
  refine wpAny_bind (wpAny_newList ?_ hzi)
  have hsz : ((s.heap.push (seqObj "list" #[] 0)).update s.heap.objs.size (Obj.mapSeq (· ++ its.toArray))).objs.size = s.heap.objs.size + 1 := by
    rw [Heap.size_update, size_push']
  have hoL : (((s.heap.push (seqObj "list" #[] 0)).update s.heap.objs.size (Obj.mapSeq (· ++ its.toArray))).push (seqObj "list" its.toArray 0)).get? (s.heap.objs.size + 1) = some (seqObj "list" its.toArray 0) := by
    rw [← hsz]
    exact Heap.get?_push_size _ rfl
  show wpAny _ _ _ _ _ { s with heap := ((s.heap.push (seqObj "list" #[] 0)).update s.heap.objs.size (Obj.mapSeq (· ++ its.toArray))).push (seqObj "list" its.toArray 0) }
  rw [hsz]
  refine wpAny_bind (wpAny_holding (wpAny_call_entry slot_list_sort ⟨_, hoL, rfl⟩ entry_list_sort (SrtO.list_sort_ord SrtO.swo_int hoL hzi (fun h2 => SrtO.ints_sortable hi h2) fun out h1 h2 => ⟨_, rfl, ?_⟩) (args_list_sort _)))
  refine wpAny_pure ⟨_, rfl, ?_⟩
  obtain ⟨k1, k2, k3⟩ := SrtO.ints_out hi h1 h2
  obtain ⟨ep, he'⟩ := PyProof.Rows.sortedAll_at s.heap its out.toArray
  have hlen : ((out.map SrtO.iv).map V.int).length ≤ sizeLine := by
    rw [List.length_map, k2.length_eq]
    rw [List.length_map] at hz
    exact hz
  exact ⟨.ref _, upd H (s.heap.objs.size + 1) (.lst ((out.map SrtO.iv).map V.int)), I.laid (t' := s.toks) (fun _ _ => PyProof.Rows.sortedAll_old) (Nat.le_succ _) ⟨hlen, out, ep, vals_of_ints k1, he'⟩, rfl, q _ _ k2 k3 (I.hok.fresh (Nat.le_succ _))⟩
end
end Tw

set_option Elab.async false
set_option linter.all false
set_option maxRecDepth 100000
set_option maxHeartbeats 1000000
/-! != of two tuples of two things, equal ones in turn -/
namespace Cq
open PySem PySem.SeqAt
open AutoSeq1 (wpAny_loadPart')
open MeetsSeq MeetsSeq2 MeetsSeq3 SeqRoads2
theorem pairs_ne {prog : Program} {w : World} {A : Around} {R : Result → Shared → Prop} {p q : Addr} {a b c e : Value} {k k2 : Nat} {u u2 : Option Addr} {z z2 : Array (Option Value)} {s : Shared}
    (hp : s.heap.get? p = some { cls := .type "tuple", dict := u, data := .seq #[a, b] k, slots := z }) (hq : s.heap.get? q = some { cls := .type "tuple", dict := u2, data := .seq #[c, e] k2, slots := z2 })
    (h : wpAny (model prog w) A.in1 (eqBool a c) (fun r s1 => r = true ∧ wpAny (model prog w) A.in1 (eqBool b e) (fun r s2 => r = true ∧ R (.ok (.ret (.bool false))) s2) (fun x s2 => R (.error x) s2) s1) (fun x s1 => R (.error x) s1) s) :
    wpAny (model prog w) A.in1 (Builtin.«tuple.__ne__» ⟨[.ref p, .ref q], []⟩) (GQ.FinOf prog w A R) (fun x s1 => R (.error x) s1) s := by
  have sub2 := AutoSeq1.sub_tuple_tuple
  obtain ⟨hh, gg, dd, tk, os⟩ := s
  wp_walk using wpAny_loadPart' hp, wpAny_loadPart' hq, wpAny_forIn_list _ (fun rest t s1 => t.1 = none ∧ ((rest = [(a, c), (b, e)] ∧ wpAny (model prog w) A.in1 (eqBool a c) (fun r s1 => r = true ∧ wpAny (model prog w) A.in1 (eqBool b e) (fun r s2 => r = true ∧ R (.ok (.ret (.bool false))) s2) (fun x s2 => R (.error x) s2) s1) (fun x s1 => R (.error x) s1) s1) ∨
    (rest = [(b, e)] ∧ wpAny (model prog w) A.in1 (eqBool b e) (fun r s2 => r = true ∧ R (.ok (.ret (.bool false))) s2) (fun x s2 => R (.error x) s2) s1) ∨ (rest = [] ∧ R (.ok (.ret (.bool false))) s1))) _
  case turn =>
    rintro ⟨y, x⟩ rest t s1 ⟨ht, ⟨e1, h1⟩ | ⟨e1, h1⟩ | ⟨e1, _⟩⟩
    · injection e1 with e1 e2
      injection e1 with e3 e4
      subst e3 e4 e2
      refine wpAny_bind (wpAny_mono h1 (fun r s2 g => ?_) fun _ _ g => g)
      obtain ⟨rfl, g⟩ := g
      wp_walk
      exact ⟨rfl, .inr (.inl ⟨rfl, g⟩)⟩
    · injection e1 with e1 e2
      injection e1 with e3 e4
      subst e3 e4 e2
      refine wpAny_bind (wpAny_mono h1 (fun r s2 g => ?_) fun _ _ g => g)
      obtain ⟨rfl, g⟩ := g
      wp_walk
      exact ⟨rfl, .inr (.inr ⟨rfl, g⟩)⟩
    · cases e1
  case fin =>
    rintro ⟨t1, t2⟩ s1 ⟨ht, ⟨e1, _⟩ | ⟨e1, _⟩ | ⟨_, h1⟩⟩
    · cases e1
    · cases e1
    · simp only at ht
      subst ht
      wp_walk
      simpa [Builtin.Tuple.tupleCompareSizes] using h1
  case h => exact ⟨rfl, .inl ⟨rfl, h⟩⟩
end Cq
namespace L2
open PySem PySem.Spec PyProof.Rows
theorem vals_two {a b : V} {l : List Value} (r : Vals [a, b] l) : ∃ x y, l = [x, y] ∧ RelV a x ∧ RelV b y := by
  cases r with
  | cons ra r =>
    cases r with
    | cons rb r =>
      cases r
      exact ⟨_, _, rfl, ra, rb⟩
def DPair (K : PySem.W.Frag) (D1 D2 : Eqv) : Eqv := fun x y H => ∃ (p q : Addr) (a b c e : V), x = .ref p ∧ y = .ref q ∧ SqT K H p [a, b] ∧ SqT K H q [c, e] ∧ D1 a c H ∧ D2 b e H
def rNeP (D : Eqv) : R2 := fun x y H Q => D x y H ∧ ∀ H', Ext H H' → Q (.bl false) H'
theorem op_neP {X : Cx} {n : Nat} {D1 D2 : Eqv} (g1 : EqG X n D1) (g2 : EqG X n D2) (m2 : Mon D2) (hr : Room (n + 1) X.A) : OpR X (compareOp .NotEq) (rNeP (DPair X.K D1 D2)) := by
  intro pins s σ H x y v u Q I rx ry ⟨⟨p, q, a, b, c, e, ex, ey, hp, hq, d1, d2⟩, k⟩
  subst ex ey
  cases rx
  cases ry
  have sb : Sub X (n + 1) X.A := ⟨hr, rfl⟩
  obtain ⟨its, r, e1, _⟩ := I.tuple hp
  obtain ⟨its2, r2, e2, _⟩ := I.tuple hq
  obtain ⟨va, vb, ei, ra, rb⟩ := vals_two r
  obtain ⟨vc, ve, ei2, rc, re⟩ := vals_two r2
  subst ei ei2
  obtain ⟨⟨cl, u1, da, z1⟩, o1, c1, n1, w1⟩ := id e1
  obtain ⟨⟨cl2, u2, da2, z2⟩, o2, c2, n2, w2⟩ := id e2
  dsimp only at c1 w1 c2 w2
  subst c1 w1 c2 w2
  show wpAny (model X.prog X.w) X.A (richCompare .NotEq (.ref p) (.ref q)) (EP X pins σ Q) X.xe s
  refine wpAny_richCompare_same_room (op := .NotEq) ⟨_, o1, rfl⟩ ⟨_, o2, rfl⟩ F.slot_tuple_ne (GQ.call_here F.slot_tuple_ne ⟨_, o1, rfl⟩ F.entry_tuple_ne (F.args_tuple_ne_2 _ _) ?_) hr.units0
  refine Cq.pairs_ne (R := wants (fun v s' => v ≠ .notImplemented ∧ EP X pins σ Q v s') X.xe) o1 o2 ?_
  refine wpAny_mono (g1 X.A.in1 pins s σ H _ _ va vc sb.in1 I ra rc d1) (fun t s1 ⟨ht, H1, I1, x1⟩ => ⟨ht, ?_⟩) fun _ _ g => g
  refine wpAny_mono (g2 X.A.in1 pins s1 σ H1 _ _ vb ve sb.in1 I1 rb re (m2 _ _ _ _ x1 d2)) (fun t s2 ⟨ht, H2, I2, x2⟩ => ⟨ht, ?_⟩) fun _ _ g => g
  exact ⟨(fun g => nomatch g), .bl false, H2, I2, rfl, k H2 (x1.trans x2)⟩
end L2


set_option Elab.async false
set_option linter.all false
set_option maxRecDepth 100000
set_option maxHeartbeats 4000000
/-! set(xs), xs a list of ints, as a value -/
namespace L2
open PySem PySem.Spec PyProof.Rows
section
variable {P : Program} {w : World} {A : Around} {E : Value → Shared → Prop}
/-- the set that is there at first -/
abbrev eS (w : World) : Obj := { cls := .type "set", dict := none, data := .set #[] 0 (.fresh 0 0 (!w.params.followText "set-order")) }
theorem init_over {z : Shared} {D l : Addr} {items : Array Value} {ns : List Int} {R : Result → Shared → Prop} (hh : A.handled = none) (hD : z.heap.get? D = some (eS w)) (hl : z.heap.IsList l items) (hit : IntsAre items.toList ns) (hb : ns.length + 1 < scanBound) (hne : l ≠ D)
    (q : ∀ (h' : Heap) (tk c : Nat), SetR w h' D (fun j => decide (j ∈ ns)) c → c ≤ ns.length → (∀ b o, b ≠ D → z.heap.get? b = some o → h'.get? b = some o) → R (.ok (.ret .none)) { z with heap := h', toks := tk }) :
    codeAny (model P w) A (.call (.builtin "set.__init__") ⟨[.ref D, .ref l], []⟩) R z := by
  have hn : items.size = ns.length := by
    have e := IntsAre.length hit
    rw [Array.length_toList] at e
    exact e
  have hT : Shared.TypeIs z (.ref D) "set" := ⟨_, hD, rfl⟩
  have lD : D < z.heap.objs.size := Heap.lt_size hD
  obtain ⟨⟨oc, od, oa, os⟩, hol, hcl, nl, hdl⟩ := id hl
  have ll : l < z.heap.objs.size := Heap.lt_size hol
  dsimp only at hcl hdl
  subst hcl hdl
  have no1 := F.sub_list_set
  have no2 := F.sub_list_frozenset
  have no3 : (Value.type "list" == Value.type "dict") = false := by decide
  refine codeAny_call_builtin F.called_set.init.plain F.entry_set_init (check_set_init_1 hT ?_)
  unfold Builtin.«set.__init__» noKeywords Builtin.Frozenset.updateFrom
  generalize hPI : pyIter = PI
  wp_walk
  subst hPI
  refine wpAny_pyIter_list hl ?_
  refine wpAny_bind (wpAny_runValue ?_)
  have free3 : A.in1.in1.handled = none := by simp [hh]
  have apart : l ≠ z.heap.objs.size := Nat.ne_of_lt ll
  have offS : D ∉ [z.heap.objs.size, l] := fun m => by
    rcases List.mem_cons.mp m with y | y
    · exact absurd y (Nat.ne_of_lt lD)
    · exact hne (List.mem_singleton.mp y).symm
  have each : ∀ (i : Nat) (v : Value), items[i]? = some v → ∃ k t, ns[i]? = some k ∧ v = .int k t := fun i v e => by
    have hi : i < ns.length := hn ▸ (Array.getElem?_eq_some_iff.mp e).1
    obtain ⟨t, e2⟩ := IntsAre.int_at hit i v (by rw [Array.getElem?_toList]; exact e)
    exact ⟨ns[i], t, List.getElem?_eq_getElem hi, by rw [e2, List.getD_eq_getElem?_getD, List.getElem?_eq_getElem hi]; rfl⟩
  refine set_update_ints ((Walks.list free3 _ l apart items).toS) D offS ns hn hb each (items.size - 0) 0 _ (by omega) (Nat.zero_le _) ?_ ⟨0, Nat.le_refl 0, ?_⟩ ?_
  · exact ⟨⟨_, Heap.get?_push_size _ rfl, rfl, rfl⟩, hl.push _⟩
  · exact setR_new_at (Heap.get?_push_of_some _ hD)
  rintro ⟨h', gens', drawn', tk', os'⟩ c moved hc new
  obtain rfl : gens' = z.gens := moved.gens
  obtain rfl : drawn' = z.drawn := moved.drawn
  obtain rfl : os' = z.os := moved.os
  show wpAny _ _ _ _ _ _
  refine wpAny_pure ?_
  show wpAny _ _ (ret Value.none) _ _ _
  refine wpAny_pure (q h' tk' c new (by omega) fun b o hbD e => ?_)
  have lb : b < z.heap.objs.size := Heap.lt_size e
  refine moved.heap b o (fun m => ?_) (Heap.get?_push_of_some _ e)
  rcases List.mem_cons.mp m with y | y
  · exact hbD y
  · exact absurd (List.mem_singleton.mp y) (Nat.ne_of_lt lb)
theorem set_over {z : Shared} {l : Addr} {items : Array Value} {ns : List Int} {Q : Value → Shared → Prop} (hh : A.handled = none) (hl : z.heap.IsList l items) (hit : IntsAre items.toList ns) (hb : ns.length + 1 < scanBound)
    (q : ∀ (h' : Heap) (tk c : Nat), SetR w h' z.heap.objs.size (fun j => decide (j ∈ ns)) c → c ≤ ns.length → (∀ b o, z.heap.get? b = some o → h'.get? b = some o) → Q (.ref z.heap.objs.size) { z with heap := h', toks := tk }) :
    wpAny (model P w) A (call (.type "set") [.ref l]) Q E z := by
  obtain ⟨c0, t0, mro0⟩ := F.called_set.mro
  have m1 := F.called_set.made
  have m2 := F.called_set.sub
  have m3 := F.called_set.notType
  have m4 := F.called_set.canCreate
  have m5 := F.typeCall_set_1 (.ref l)
  have ll : l < z.heap.objs.size := by
    obtain ⟨o, ho, _⟩ := id hl
    exact Heap.lt_size ho
  refine wpAny_call (codeAny_of_tree ?_)
  show wpAny _ _ (callAny (.type "set") _) _ _ _
  refine wpAny_pure ⟨Code.quiet_builtin _ (by decide +kernel), codeAny_builtin F.entry_type_call ?_⟩
  rw [Around.under_plain (weight_type_call_type "set" [.ref l] []) rfl]
  repeat any_goals first | assumption | wp_step
  have new1 : (z.heap.push (eS w)).get? z.heap.objs.size = some (eS w) := Heap.get?_push_size _ rfl
  refine codeAny_mono (code_set_led1 (.ref l) (E := E) (Q₁ := fun v y => v = .ref z.heap.objs.size ∧ y = { z with heap := z.heap.push (eS w) }) ⟨rfl, rfl⟩) fun r y hr => ?_
  cases r with
  | error e => exact hr
  | ok fl =>
    cases fl with
    | ret v =>
      obtain ⟨rfl, rfl⟩ := hr
      have hT : Shared.TypeIs { z with heap := z.heap.push (eS w) } (.ref z.heap.objs.size) "set" := ⟨_, new1, rfl⟩
      have i1 := F.called_set.init.lookup
      have i2 := F.called_set.init.bind (.ref z.heap.objs.size)
      repeat any_goals first | assumption | wp_step
      refine init_over (A := A.in1) (z := { z with heap := z.heap.push (eS w) }) (D := z.heap.objs.size) (by simp [hh]) new1 (hl.push _) hit hb (Nat.ne_of_lt ll) fun h' tk c S hc k => ?_
      show wpAny _ _ (pure (some Value.none)) _ _ _
      repeat any_goals first | assumption | wp_step
      exact q h' tk c S hc fun b o e => k b o (Nat.ne_of_lt (Heap.lt_size e)) (Heap.get?_push_of_some _ e)
    | _ => exact hr.elim
end
section
variable {X : Cx}
/-- set(xs) -/
def rSetLI (K : PySem.W.Frag) (w : World) : List V → Hp → VK → Prop := fun xs H Q => ∃ (l : Addr) (ns : List Int), xs = [V.ref l] ∧ SqL K H l (ns.map V.int) ∧ ns.length ≤ 1000 ∧ ∀ p n, n ≤ ns.length → H p = none → Q (.ref p) (upd H p (SetO w p (fun j => decide (j ∈ ns)) n))
theorem cr_setLI (hc : X.calm = true) : CallR X (.type "set") (rSetLI X.K X.w) := by
  intro pins s σ H xs us Q I r h
  obtain ⟨l, ns, rfl, hl, h1, q⟩ := h
  obtain ⟨its, rv, pl, _⟩ := I.list hl
  rw [Vals.ref1 r]
  refine set_over (I.ok.hd hc) pl.isList (ns := ns) (by simpa using rv.ints) (by unfold scanBound; omega) fun h' tk c R hc k => ?_
  exact ⟨.ref _, upd H s.heap.objs.size (SetO X.w s.heap.objs.size (fun j => decide (j ∈ ns)) c), I.laid (t' := tk) k (Nat.le_refl _) (setO_new R), rfl, q _ c hc (I.hok.fresh (Nat.le_refl _))⟩
end
end L2

set_option Elab.async false
set_option linter.all false
set_option maxRecDepth 100000
set_option maxHeartbeats 4000000
/-! sorted(xs), xs a list of tuples of ints, as long as a list may be -/
namespace L2
open PySem PySem.Spec PyProof.Rows PySem.W
abbrev tupE (ns : List Int) : PyData := .tuple (ns.map .int)
theorem tupE_le : dataLe false tupE = fun p q => decide (p ≤ q) := by
  funext p q
  show (!dataLt (.tuple (q.map .int)) (.tuple (p.map .int))) = _
  rw [dataLt_tuple]
  show (!rowLt (q.map .int) (p.map .int)) = _
  rw [dataLt_ints]
  by_cases h : q < p
  · have h' : ¬ p ≤ q := fun r => List.not_lt.mpr r h
    simp [h, h']
  · have h' : p ≤ q := List.not_lt.mp h
    simp [h, h']
section
variable {X : Cx} {pins : List (Addr × Obj)} {σ : St} {H : Hp} {s : Shared}
abbrev TupV (K : PySem.W.Frag) (H : Hp) (u : Value) (ns : List Int) : Prop := ∃ t, u = .ref t ∧ SqT K H t (ns.map V.int)
theorem tupV_of : ∀ {xs : List V} {bs : List (List Int)} {us : List Value}, Paired (TupI X.K H) xs bs → Vals xs us → EachIs (TupV X.K H) us bs
  | _, _, _, .nil, .nil => .nil
  | _, _, _, .cons ⟨t, e, h⟩ p, .cons r v => by
    subst e
    cases r
    exact .cons ⟨t, rfl, h⟩ (tupV_of p v)
theorem tupV_to : ∀ {bs : List (List Int)} {us : List Value}, EachIs (TupV X.K H) us bs → Paired (TupI X.K H) (us.map bkV) bs ∧ ∀ u ∈ us, ∃ a, u = Value.ref a
  | _, _, .nil => ⟨.nil, fun u hu => absurd hu (by simp)⟩
  | _, _, .cons ⟨t, e, h⟩ p => by
    subst e
    obtain ⟨h1, h2⟩ := tupV_to p
    refine ⟨.cons ⟨t, rfl, h⟩ h1, fun u hu => ?_⟩
    rcases List.mem_cons.mp hu with e | hu
    · exact ⟨t, e⟩
    · exact h2 u hu
theorem tupV_reads (I : Inv X pins σ H s) {u : Value} {ns : List Int} (h : TupV X.K H u ns) : ∃ as, Reads s.heap u (tupE ns) as := by
  obtain ⟨t, rfl, ht⟩ := h
  obtain ⟨its, rv, hT, _⟩ := I.tuple ht
  exact ⟨_, reads_tuple_ints hT (by simpa using rv.ints)⟩
/-- sorted(xs): the items ascending as tuples are -/
def rSortTA (K : PySem.W.Frag) : List V → Hp → VK → Prop := fun vs H Q => ∃ (a : Addr) (xs : List V) (bs : List (List Int)), vs = [V.ref a] ∧ SqL K H a xs ∧ Paired (TupI K H) xs bs ∧ (∀ b ∈ bs, b ≠ []) ∧
  ∀ (ys : List V) (p : Addr), Paired (TupI K H) ys (bs.mergeSort fun p q => decide (p ≤ q)) → H p = none → Q (.ref p) (upd H p (.lst ys))
theorem cr_sortTA (hu : X.A.units + 65 < cLine) : CallR X (.builtin "sorted") (rSortTA X.K) := by
  intro pins s σ H vs us Q I r h
  obtain ⟨a, xs, bs, rfl, hs, hp, hne, q⟩ := h
  obtain ⟨its, rv, hl, hz⟩ := I.list hs
  rw [Vals.ref1 r]
  have e0 : EachIs (TupV X.K H) its bs := tupV_of hp rv
  have hlen : bs.length = xs.length := (Paired.length hp).symm
  refine sorted_data (A := X.A) (R := TupV X.K H) (enc := tupE) hl.isList e0 (e0.mono fun u ns h => tupV_reads I h) (AllAlike.of fun b b' => by simp [alike, alike_ints]) (.inl fun d hd => ?_) (by rw [hlen]; exact hz) (fun b _ => ?_) fun out ho eo => ?_
  · obtain ⟨b, hb, rfl⟩ := List.mem_map.mp hd
    match b, hne b hb with
    | x :: r, _ => exact ⟨_, _, rfl⟩
  · have : (tupE b).depth ≤ 1 := by simp [PyData.depth, depth_ints]
    omega
  · rw [tupE_le] at eo
    obtain ⟨e1, e2⟩ := tupV_to eo
    obtain ⟨ep, he'⟩ := PyProof.Rows.sortedAll_at s.heap its out.toArray
    have hz2 : (out.map bkV).length ≤ sizeLine := by
      rw [List.length_map, ho, hlen]
      exact hz
    exact ⟨.ref _, upd H (s.heap.objs.size + 1) (.lst (out.map bkV)), I.laid (t' := s.toks) (fun _ _ => PyProof.Rows.sortedAll_old) (Nat.le_succ _) ⟨hz2, out, ep, bkV_vals e2, he'⟩, rfl, q _ _ e1 (I.hok.fresh (Nat.le_succ _))⟩
end
end L2

set_option Elab.async false
set_option linter.all false
set_option maxRecDepth 100000
set_option maxHeartbeats 4000000
/-! math.factorial -/
namespace L2
open PySem PySem.Spec PyProof.Rows
section
variable {X : Cx}
abbrev facN (n : Nat) : Nat := PySem.Builtin.Math.factorialNat n
def rFac : List V → Hp → VK → Prop := fun vs H Q => ∃ n : Nat, vs = [.int n] ∧ n ≤ 20000 ∧ Q (.int (facN n : Nat)) H
theorem cr_fac : CallR X (.builtin "math.factorial") rFac := by
  intro pins s σ H vs us Q I r h
  obtain ⟨n, rfl, hn, q⟩ := h
  cases r with
  | cons r1 r2 =>
    cases r2
    obtain ⟨t, rfl⟩ := r1
    exact PySem.W.mc_factorial (by omega) (by omega) fun _ => ⟨.int _, H, I.tok _, ⟨_, rfl⟩, q⟩
end
end L2

set_option Elab.async false
set_option linter.all false
set_option maxRecDepth 100000
set_option maxHeartbeats 4000000
/-! sorted(xs), xs a list of one item at most, whatever it is -/
namespace L2
open PySem PySem.Spec PyProof.Rows PySem.W
section
variable {X : Cx}
def rSort1 (K : PySem.W.Frag) : List V → Hp → VK → Prop := fun vs H Q => ∃ (a : Addr) (xs : List V), vs = [V.ref a] ∧ SqL K H a xs ∧ xs.length ≤ 1 ∧
  ∀ p : Addr, H p = none → Q (.ref p) (upd H p (.lst xs))
theorem cr_sort1 : CallR X (.builtin "sorted") (rSort1 X.K) := by
  intro pins s σ H vs us Q I r h
  obtain ⟨a, xs, rfl, hs, h1, q⟩ := h
  obtain ⟨its, rv, hl, hz⟩ := I.list hs
  rw [Vals.ref1 r]
  have hlen : xs.length = its.length := rv.length
  refine Srt.sorted_any hl.isList (by omega) (fun h2 => by omega) fun out hp => ?_
  have e : out = its := by
    match its, hlen with
    | [], _ => exact List.Perm.eq_nil hp
    | [x], _ => exact List.perm_singleton.mp hp
    | _ :: _ :: _, hl => simp only [List.length_cons] at hl; omega
  subst e
  obtain ⟨ep, he'⟩ := PyProof.Rows.sortedAll_at s.heap out out.toArray
  exact ⟨.ref _, upd H (s.heap.objs.size + 1) (.lst xs), I.laid (t' := s.toks) (fun _ _ => PyProof.Rows.sortedAll_old) (Nat.le_succ _) ⟨hz, out, ep, rv, he'⟩, rfl, q _ (I.hok.fresh (Nat.le_succ _))⟩
end
end L2

set_option Elab.async false
set_option linter.all false
set_option maxRecDepth 100000
set_option maxHeartbeats 4000000
/-! xs.extend(t), t a tuple -/
namespace PySem
open PySem PySem.W PySem.AutoSeq1
theorem ext_tup {l b : Addr} {items items2 : Array Value} {n n2 : Nat} {dc : Option Addr} {sl : Array (Option Value)} (hs0 : ¬(!items.isEmpty && Builtin.List.listTooLong (items.size + items2.size)) = true) (hs1 : items.size ≤ sizeLine) (hs2 : items.size + items2.size ≤ sizeLine + 1) :
    Meets (Builtin.«list.extend» ⟨[.ref l, .ref b], []⟩) (fun _ R s => s.heap.get? l = some { cls := .type "list", dict := none, data := .seq items n, slots := #[] } ∧ s.heap.get? b = some { cls := .type "tuple", dict := dc, data := .seq items2 n2, slots := sl } ∧
      R (.ok (.ret Value.none)) { s with heap := s.heap.update l (Obj.mapSeq fun x => x ++ items2), toks := s.toks }) :=
  .of_wp fun prog w A R s h => by
    obtain ⟨hp, g, d, tk, os⟩ := s
    obtain ⟨hl, hb, h⟩ := h
    have f1 := idx_int
    have f2 := sub_tuple_tuple
    have f3 := sub_list_list
    have f4 := sub_tuple_list
    have f5 := sub_list_tuple
    have hz' : (items ++ items2).size ≤ sizeLine + 1 := by rw [Array.size_append]; exact hs2
    wp_walk using (wpAny_updateSeq hl rfl (hz := hs1) (_hz' := hz')), wpAny_loadPart' hl, wpAny_loadPart' hb
    exact ⟨_, rfl, h⟩
end PySem
namespace L2
open PySem PySem.Spec PyProof.Rows PySem.W
section
variable {X : Cx}
def rExtT (K : PySem.W.Frag) : V → List V → Hp → VK → Prop := fun x vs H Q => ∃ (l b : Addr) (xs zs : List V), x = .ref l ∧ vs = [.ref b] ∧ H l = some (.lst xs) ∧ SqT K H b zs ∧ xs.length + zs.length ≤ sizeLine ∧
  Q .non (upd H l (.lst (xs ++ zs)))
theorem mt_extendT : MtM X "list.extend" (rExtT X.K) := by
  intro pins s σ H x vs v us Q I rx rv h
  obtain ⟨l, b, xs, zs, rfl, rfl, hH, hB, hz, q⟩ := h
  cases rx
  obtain ⟨u, rfl, ru⟩ := rv.one
  cases ru
  obtain ⟨z, its, n, r, hl, e⟩ := I.lstM hH
  obtain ⟨its2, r2, ⟨ob, eb, hc, n2, hd⟩, hl2⟩ := I.tuple hB
  obtain ⟨cls, dc, data, sl⟩ := ob
  dsimp only at hc hd
  subst hc hd
  have h1 := r.length
  have h2 := r2.length
  have hsz : its.toArray.size + its2.toArray.size ≤ sizeLine := by rw [List.size_toArray, List.size_toArray]; omega
  have hlong : ¬ (!its.toArray.isEmpty && Builtin.List.listTooLong (its.toArray.size + its2.toArray.size)) = true := by
    rw [notLongL hsz, Bool.and_false]
    exact Bool.false_ne_true
  refine call_meets F.slot_list_extend ⟨_, e, rfl⟩ F.entry_list_extend (F.args_list_extend_2 _ _) (PySem.ext_tup hlong (by rw [List.size_toArray]; omega) (by omega)) ⟨e, eb, ?_⟩
  refine ⟨.non, _, I.lset (its' := its ++ its2) hH e (by simp) (r.append r2) ?_, rfl, q⟩
  rw [List.length_append]
  omega
end
end L2

set_option Elab.async false
set_option linter.all false
set_option maxRecDepth 100000
set_option maxHeartbeats 4000000
/-! set(xs), xs a tuple of ints, as a value -/
namespace L2
open PySem PySem.Spec PyProof.Rows
section
variable {P : Program} {w : World} {A : Around} {E : Value → Shared → Prop}
theorem sub_tup_set : isSubtype (.type "tuple") (.type "set") = pure false := by rw [isSubtype_type]; kernel_rfl
theorem sub_tup_frz : isSubtype (.type "tuple") (.type "frozenset") = pure false := by rw [isSubtype_type]; kernel_rfl
theorem init_overT {z : Shared} {D l : Addr} {items : Array Value} {ns : List Int} {R : Result → Shared → Prop} (hh : A.handled = none) (hD : z.heap.get? D = some (eS w)) (hl : z.heap.IsTuple l items) (hit : IntsAre items.toList ns) (hb : ns.length + 1 < scanBound) (hne : l ≠ D)
    (q : ∀ (h' : Heap) (tk c : Nat), SetR w h' D (fun j => decide (j ∈ ns)) c → c ≤ ns.length → (∀ b o, b ≠ D → z.heap.get? b = some o → h'.get? b = some o) → R (.ok (.ret .none)) { z with heap := h', toks := tk }) :
    codeAny (model P w) A (.call (.builtin "set.__init__") ⟨[.ref D, .ref l], []⟩) R z := by
  have hn : items.size = ns.length := by
    have e := IntsAre.length hit
    rw [Array.length_toList] at e
    exact e
  have hT : Shared.TypeIs z (.ref D) "set" := ⟨_, hD, rfl⟩
  have lD : D < z.heap.objs.size := Heap.lt_size hD
  obtain ⟨⟨oc, od, oa, os⟩, hol, hcl, nl, hdl⟩ := id hl
  have ll : l < z.heap.objs.size := Heap.lt_size hol
  dsimp only at hcl hdl
  subst hcl hdl
  have no1 := sub_tup_set
  have no2 := sub_tup_frz
  have no3 : (Value.type "tuple" == Value.type "dict") = false := by decide
  refine codeAny_call_builtin F.called_set.init.plain F.entry_set_init (check_set_init_1 hT ?_)
  unfold Builtin.«set.__init__» noKeywords Builtin.Frozenset.updateFrom
  generalize hPI : pyIter = PI
  wp_walk
  subst hPI
  refine wpAny_pyIter_tuple hl ?_
  refine wpAny_bind (wpAny_runValue ?_)
  have free3 : A.in1.in1.handled = none := by simp [hh]
  have apart : l ≠ z.heap.objs.size := Nat.ne_of_lt ll
  have offS : D ∉ [z.heap.objs.size, l] := fun m => by
    rcases List.mem_cons.mp m with y | y
    · exact absurd y (Nat.ne_of_lt lD)
    · exact hne (List.mem_singleton.mp y).symm
  have each : ∀ (i : Nat) (v : Value), items[i]? = some v → ∃ k t, ns[i]? = some k ∧ v = .int k t := fun i v e => by
    have hi : i < ns.length := hn ▸ (Array.getElem?_eq_some_iff.mp e).1
    obtain ⟨t, e2⟩ := IntsAre.int_at hit i v (by rw [Array.getElem?_toList]; exact e)
    exact ⟨ns[i], t, List.getElem?_eq_getElem hi, by rw [e2, List.getD_eq_getElem?_getD, List.getElem?_eq_getElem hi]; rfl⟩
  refine set_update_ints ((Walks.tuple free3 _ l apart items).toS) D offS ns hn hb each (items.size - 0) 0 _ (by omega) (Nat.zero_le _) ?_ ⟨0, Nat.le_refl 0, ?_⟩ ?_
  · exact ⟨⟨_, Heap.get?_push_size _ rfl, rfl, rfl⟩, hl.push _⟩
  · exact setR_new_at (Heap.get?_push_of_some _ hD)
  rintro ⟨h', gens', drawn', tk', os'⟩ c moved hc new
  obtain rfl : gens' = z.gens := moved.gens
  obtain rfl : drawn' = z.drawn := moved.drawn
  obtain rfl : os' = z.os := moved.os
  show wpAny _ _ _ _ _ _
  refine wpAny_pure ?_
  show wpAny _ _ (ret Value.none) _ _ _
  refine wpAny_pure (q h' tk' c new (by omega) fun b o hbD e => ?_)
  have lb : b < z.heap.objs.size := Heap.lt_size e
  refine moved.heap b o (fun m => ?_) (Heap.get?_push_of_some _ e)
  rcases List.mem_cons.mp m with y | y
  · exact hbD y
  · exact absurd (List.mem_singleton.mp y) (Nat.ne_of_lt lb)
theorem set_overT {z : Shared} {l : Addr} {items : Array Value} {ns : List Int} {Q : Value → Shared → Prop} (hh : A.handled = none) (hl : z.heap.IsTuple l items) (hit : IntsAre items.toList ns) (hb : ns.length + 1 < scanBound)
    (q : ∀ (h' : Heap) (tk c : Nat), SetR w h' z.heap.objs.size (fun j => decide (j ∈ ns)) c → c ≤ ns.length → (∀ b o, z.heap.get? b = some o → h'.get? b = some o) → Q (.ref z.heap.objs.size) { z with heap := h', toks := tk }) :
    wpAny (model P w) A (call (.type "set") [.ref l]) Q E z := by
  obtain ⟨c0, t0, mro0⟩ := F.called_set.mro
  have m1 := F.called_set.made
  have m2 := F.called_set.sub
  have m3 := F.called_set.notType
  have m4 := F.called_set.canCreate
  have m5 := F.typeCall_set_1 (.ref l)
  have ll : l < z.heap.objs.size := by
    obtain ⟨o, ho, _⟩ := id hl
    exact Heap.lt_size ho
  refine wpAny_call (codeAny_of_tree ?_)
  show wpAny _ _ (callAny (.type "set") _) _ _ _
  refine wpAny_pure ⟨Code.quiet_builtin _ (by decide +kernel), codeAny_builtin F.entry_type_call ?_⟩
  rw [Around.under_plain (weight_type_call_type "set" [.ref l] []) rfl]
  repeat any_goals first | assumption | wp_step
  have new1 : (z.heap.push (eS w)).get? z.heap.objs.size = some (eS w) := Heap.get?_push_size _ rfl
  refine codeAny_mono (code_set_led1 (.ref l) (E := E) (Q₁ := fun v y => v = .ref z.heap.objs.size ∧ y = { z with heap := z.heap.push (eS w) }) ⟨rfl, rfl⟩) fun r y hr => ?_
  cases r with
  | error e => exact hr
  | ok fl =>
    cases fl with
    | ret v =>
      obtain ⟨rfl, rfl⟩ := hr
      have hT : Shared.TypeIs { z with heap := z.heap.push (eS w) } (.ref z.heap.objs.size) "set" := ⟨_, new1, rfl⟩
      have i1 := F.called_set.init.lookup
      have i2 := F.called_set.init.bind (.ref z.heap.objs.size)
      repeat any_goals first | assumption | wp_step
      refine init_overT (A := A.in1) (z := { z with heap := z.heap.push (eS w) }) (D := z.heap.objs.size) (by simp [hh]) new1 (hl.push _) hit hb (Nat.ne_of_lt ll) fun h' tk c S hc k => ?_
      show wpAny _ _ (pure (some Value.none)) _ _ _
      repeat any_goals first | assumption | wp_step
      exact q h' tk c S hc fun b o e => k b o (Nat.ne_of_lt (Heap.lt_size e)) (Heap.get?_push_of_some _ e)
    | _ => exact hr.elim
end
section
variable {X : Cx}
/-- set(xs) -/
def rSetTI (K : PySem.W.Frag) (w : World) : List V → Hp → VK → Prop := fun xs H Q => ∃ (l : Addr) (ns : List Int), xs = [V.ref l] ∧ SqT K H l (ns.map V.int) ∧ ns.length ≤ 1000 ∧ ∀ p n, n ≤ ns.length → H p = none → Q (.ref p) (upd H p (SetO w p (fun j => decide (j ∈ ns)) n))
theorem cr_setTI (hc : X.calm = true) : CallR X (.type "set") (rSetTI X.K X.w) := by
  intro pins s σ H xs us Q I r h
  obtain ⟨l, ns, rfl, hl, h1, q⟩ := h
  obtain ⟨its, rv, pl, _⟩ := I.tuple hl
  rw [Vals.ref1 r]
  refine set_overT (I.ok.hd hc) pl (ns := ns) (by simpa using rv.ints) (by unfold scanBound; omega) fun h' tk c R hc k => ?_
  exact ⟨.ref _, upd H s.heap.objs.size (SetO X.w s.heap.objs.size (fun j => decide (j ∈ ns)) c), I.laid (t' := tk) k (Nat.le_refl _) (setO_new R), rfl, q _ c hc (I.hok.fresh (Nat.le_refl _))⟩
end
end L2

set_option Elab.async false
set_option linter.all false
set_option maxRecDepth 100000
set_option maxHeartbeats 4000000
/-! t > u, both tuples of ints -/
namespace L2
open PySem PySem.Spec PyProof.Rows
abbrev gtB (ns ms : List Int) : Bool := Ob.lexAt (fun j => decide (ns.getD j 0 = ms.getD j 0)) (fun j => decide (ms.getD j 0 < ns.getD j 0)) (decide (ms.length < ns.length)) 0 (min ns.length ms.length)
def rGtT (K : PySem.W.Frag) : R2 := fun x y H Q => ∃ (t1 t2 : Addr) (ns ms : List Int), (x = .ref t1 ∧ y = .ref t2) ∧ (SqT K H t1 (ns.map V.int) ∧ SqT K H t2 (ms.map V.int)) ∧ Q (.bl (gtB ns ms)) H
theorem op_gtT {X : Cx} (few : X.A.units < cLine) : OpR X (compareOp .Gt) (rGtT X.K) := by
  rintro pins s σ H x y v u Q I rx ry ⟨t1, t2, ns, ms, ⟨rfl, rfl⟩, ⟨h1, h2⟩, q⟩
  cases rx; cases ry
  obtain ⟨us, va, pa, _⟩ := I.tuple h1
  obtain ⟨ws, vb, pb, _⟩ := I.tuple h2
  have item : ∀ {zs : List Value} {ks : List Int}, IntsAre zs ks → ∀ j (h : j < zs.toArray.size), ∃ t, zs.toArray[j] = .int (ks.getD j 0) t := fun ii j h =>
    PyProof.Rows.IntsAre.int_at ii _ _ (by simp at h; simp [h])
  have size : ∀ {zs : List Value} {ks : List Int}, IntsAre zs ks → zs.toArray.size = ks.length := fun ii => by rw [List.size_toArray]; exact ii.length
  have beq : ∀ a b : Int, decide (a = b) = (a == b) := fun a b => by
    by_cases c : a = b
    · subst c; simp
    · rw [decide_eq_false c]; exact (beq_eq_false_iff_ne.mpr c).symm
  have main := Ob.RcOp.tuples_gt (A := X.A) (s := s) (e := fun j => decide (ns.getD j 0 = ms.getD j 0)) (r := fun j => decide (ms.getD j 0 < ns.getD j 0)) pa pb few
    (fun j i1 i2 => by
      obtain ⟨k1, g1⟩ := item va.ints j i1
      obtain ⟨k2, g2⟩ := item vb.ints j i2
      rw [g1, g2, beq]
      exact SeqAt.EqAt.int_int _ _ _ _)
    (fun j i1 i2 _ => by
      obtain ⟨k1, g1⟩ := item va.ints j i1
      obtain ⟨k2, g2⟩ := item vb.ints j i2
      rw [g1, g2]
      exact Ob.RcOp.gt_int _ _ _ _)
  rw [size va.ints, size vb.ints] at main
  exact main X.prog X.w X.xe (EP X pins σ Q) ⟨.bl _, H, I, rfl, q⟩
end L2

set_option Elab.async false
set_option linter.all false
set_option maxRecDepth 100000
set_option maxHeartbeats 4000000
/-! sorted(xs), xs a list of tuples of ints, the first of which has no item -/
namespace PySem.W
open PySem PySem.Calls PyProof.Rows PySem.SeqAt
section
variable {prog : Program} {w : World} {A : Around} {E : Value → Shared → Prop} {s : Shared}
theorem call_tuple_ltZ {Q : Value → Shared → Prop} {l b : Addr} {items items2 : Array Value} {e r : Nat → Bool} (hl : s.heap.IsTuple l items) (hb : s.heap.IsTuple b items2)
    (he : ∀ j (h1 : j < items.size) (h2 : j < items2.size), EqAt A.in1 s items[j] items2[j] (e j)) (hr : ∀ j (h1 : j < items.size) (h2 : j < items2.size), e j = false → RcLt A.in1 s items[j] items2[j] (r j))
    (h : Q (.bool (firstLt e r (decide (items.size < items2.size)) (List.range (min items.size items2.size)))) s) : wpAny (model prog w) A (call (.builtin "tuple.__lt__") [.ref l, .ref b]) Q E s := by
  obtain ⟨⟨cls, dd, data, sl⟩, ho, hc, n, hd⟩ := id hl
  obtain ⟨⟨cls2, dd2, data2, sl2⟩, ho2, hc2, n2, hd2⟩ := id hb
  simp only at hc hd hc2 hd2
  subst hc hd hc2 hd2
  exact call_meets F.slot_tuple_lt ⟨_, ho, rfl⟩ F.entry_tuple_lt (F.args_tuple_lt_2 _ _) (tuple_ltAt l b items items2 n n2 dd dd2 sl sl2 e r) ⟨ho, ho2, he, hr, h⟩
theorem oneLt_tupZ {xs ys : List PyData} {a b : Value} {as bs : List Addr} {Q : Bool → Shared → Prop} (ra : Reads s.heap a (.tuple xs) as) (rb : Reads s.heap b (.tuple ys) bs) (hal : alikeAll xs ys = true)
    (hu : A.units + min (PyData.tuple xs).depth (PyData.tuple ys).depth < cLine) (hq : Q (dataLt (.tuple xs) (.tuple ys)) s) : wpAny (model prog w) A (oneLt' true a b) Q E s := by
  cases ra with
  | @tuple l o vs n _ as₁ h1 h2 h3 h4 =>
    cases rb with
    | @tuple l' o' vs' n' _ bs₁ k1 k2 k3 k4 =>
      have n1 : vs.size = xs.length := by simpa using ReadsAll.length _ _ _ h4
      have n2 : vs'.size = ys.length := by simpa using ReadsAll.length _ _ _ k4
      rw [dataLt_tuple, ← firstLt_toks xs ys hal, ← n1, ← n2] at hq
      rw [oneLt'_eq]
      simp only [if_true]
      refine wpAny_bind (wpAny_cRoomFor (room_here hu) ?_)
      refine wpAny_bind (wpAny_callSpecialIfBound?_slot (T := "tuple") ⟨_, h1, h2⟩ F.slot_tuple_lt (call_tuple_ltZ (e := pairEq xs ys) (r := fun j => dataLt (xs.getD j .none) (ys.getD j .none)) ⟨_, h1, h2, _, h3⟩ ⟨_, k1, k2, _, k3⟩ (fun j j1 j2 => ?_) (fun j j1 j2 hj => ?_) ?_))
      · have := eqAt_alikeAll xs ys A.in1 s vs.toList vs'.toList _ _ h4 k4 hal (room_in hu) j (by simpa using j1) (by simpa using j2)
        simpa using this
      · have := rcLt_alikeAll xs ys A.in1 s vs.toList vs'.toList _ _ h4 k4 hal (room_in hu) j (by simpa using j1) (by simpa using j2) hj
        simpa using this
      · exact wpAny_truthy_bool hq
end
section
variable {M : Model} {A : Around} {E : Value → Shared → Prop} {s : Shared}
def TupAt (h : Heap) (v : Value) (xs : Array Value) : Prop := ∃ a o n, v = .ref a ∧ h.get? a = some o ∧ o.cls = .type "tuple" ∧ o.data = .seq xs n
theorem first_tupZ {v : Value} {xs : Array Value} {Q : Option Value → Shared → Prop} (t : TupAt s.heap v xs) (h : Q xs[0]? s) : wpAny M A (firstOfTuple' v) Q E s := by
  obtain ⟨a, o, n, rfl, ho, hc, hd⟩ := t
  rw [kas_first_eq]
  refine wpAny_bind (Looks.here (show Looks M s.heap (typeOf (.ref a)) o.cls from (Looks.ld ho).andThen .now) ?_)
  rw [hc, if_neg (by first | decide | simp)]
  exact wpAny_bind (listItems_at ho hd (wpAny_pure h))
theorem firsts_anyZ : ∀ (vs : List Value), (∀ v ∈ vs, ∃ xs, TupAt s.heap v xs) → ∃ rs : List (Option Value), ∀ {Q : List (Option Value) → Shared → Prop}, Q rs s → wpAny M A (vs.mapM firstOfTuple') Q E s
  | [], _ => ⟨[], fun h => by rw [List.mapM_nil]; exact wpAny_pure h⟩
  | v :: vs, t => by
    obtain ⟨xs, hx⟩ := t v (.head _)
    obtain ⟨rs, hr⟩ := firsts_anyZ vs fun v hv => t v (.tail _ hv)
    refine ⟨xs[0]? :: rs, fun {Q} h => ?_⟩
    rw [List.mapM_cons]
    exact wpAny_bind (first_tupZ hx (wpAny_bind (hr (Q := fun bs s' => wpAny M A (pure (xs[0]? :: bs)) Q E s') (wpAny_pure h))))
theorem kind_tupZ {v₁ : Value} {rest : List Value} {Q : SortKind → Shared → Prop} (h1 : TupAt s.heap v₁ #[]) (hT : ∀ v ∈ rest, ∃ xs, TupAt s.heap v xs) (h : Q oneType' s) : wpAny M A (keyKind' (v₁ :: rest).toArray) Q E s := by
  obtain ⟨rs, hr⟩ := firsts_anyZ (M := M) (A := A) (E := E) rest hT
  rw [keyKind'_eq, List.mapM_toArray, map_eq_pure_bind]
  refine wpAny_bind (wpAny_bind ?_)
  rw [List.mapM_cons]
  refine wpAny_bind (first_tupZ h1 (wpAny_bind (hr ?_)))
  refine wpAny_pure (wpAny_pure ?_)
  rw [if_neg (by simp), if_neg (by simp)]
  rw [oneTypeOnly'_eq, List.mapM_toArray, map_eq_pure_bind]
  have hty : ∀ v ∈ v₁ :: rest, ∀ (Q' : Value → Shared → Prop), Q' (.type "tuple") s → wpAny M A (typeOf v) Q' E s := fun v hv Q' hq => by
    have ht : ∃ xs, TupAt s.heap v xs := by
      rcases List.mem_cons.mp hv with rfl | hv
      · exact ⟨_, h1⟩
      · exact hT v hv
    obtain ⟨xs, a, o, n, rfl, ho, hc, hd⟩ := ht
    refine Looks.here (show Looks M s.heap (typeOf (.ref a)) o.cls from (Looks.ld ho).andThen .now) ?_
    rw [hc]
    exact hq
  refine wpAny_bind (wpAny_bind (wpAny_bind (kas_mapM (r := .type "tuple") _ hty (wpAny_pure ?_))))
  have hall : ((List.map (fun _ => Value.type "tuple") (v₁ :: rest)).toArray.all fun x => x == Value.type "tuple") = true := by
    simp only [List.all_toArray, List.all_map, List.all_eq_true]
    intro _ _
    rfl
  have h0 : (List.map (fun _ => Value.type "tuple") (v₁ :: rest)).toArray[0]? = some (Value.type "tuple") := by simp
  rw [h0]
  simp only [hall, if_true]
  exact wpAny_pure (wpAny_pure h)
end
section
variable {prog : Program} {w : World} {A : Around} {E : Value → Shared → Prop} {s : Shared}
theorem reads_tupZ {v : Value} {r : List PyData} {as : List Addr} (h : Reads s.heap v (.tuple r) as) : ∃ xs, TupAt s.heap v xs := by
  cases h with
  | @tuple l o vs n _ as₁ h1 h2 h3 h4 => exact ⟨_, l, o, n, rfl, h1, h2, h3⟩
theorem reads_tup0Z {v : Value} {as : List Addr} (h : Reads s.heap v (.tuple []) as) : TupAt s.heap v #[] := by
  cases h with
  | @tuple l o vs n _ as₁ h1 h2 h3 h4 =>
    have n1 : vs.size = 0 := by simpa using ReadsAll.length _ _ _ h4
    obtain rfl : vs = #[] := Array.eq_empty_of_size_eq_zero n1
    exact ⟨l, o, n, rfl, h1, h2, h3⟩
theorem SortsAt.tupZ {vs : List Value} {ds : List PyData} (e : EachIs (fun v d => ∃ as, Reads s.heap v d as) vs (.tuple [] :: ds)) (hal : AllAlike (.tuple [] :: ds)) (ht : ∀ d, d ∈ ds → ∃ r, d = .tuple r) (hu : ∀ d, d ∈ PyData.tuple [] :: ds → A.units + d.depth < cLine) :
    SortsAt prog w A s (dataKind s.heap (.tuple [] :: ds)) vs := by
  have ht2 : ∀ d, d ∈ PyData.tuple [] :: ds → ∃ r, d = .tuple r := fun d hd => by
    rcases List.mem_cons.mp hd with rfl | hd
    · exact ⟨_, rfl⟩
    · exact ht d hd
  refine ⟨fun v hv => ?_, oneType', ?_, fun h2 E Q hq => ?_⟩
  · obtain ⟨d, hd, as, r⟩ := e.left v hv
    exact ⟨_, dataKind_some hal hd r⟩
  · intro E x y a b Q ha hb hq
    obtain ⟨d, as, hd, ra, rfl⟩ := dataKind_inv ha
    obtain ⟨d', as', hd', rb, rfl⟩ := dataKind_inv hb
    have hdd := hal d hd d' hd'
    have hroom : A.units + min d.depth d'.depth < cLine := Nat.lt_of_le_of_lt (Nat.add_le_add_left (Nat.min_le_left _ _) _) (hu d hd)
    obtain ⟨r1, rfl⟩ := ht2 d hd
    obtain ⟨r2, rfl⟩ := ht2 d' hd'
    rw [keyLt'_oneType]
    exact oneLt_tupZ ra rb (by simpa [alike] using hdd) hroom hq
  · cases e with
    | @cons v₁ _ vs _ r1 r2 =>
      obtain ⟨as, r1⟩ := r1
      refine kind_tupZ (reads_tup0Z r1) (fun v hv => ?_) hq
      obtain ⟨d, hd, as, r⟩ := r2.left v hv
      obtain ⟨r', rfl⟩ := ht d hd
      exact reads_tupZ r
end
end PySem.W
namespace PySem.W
open PySem PySem.Calls PyProof.Rows PySem.SeqAt
section
variable {prog : Program} {w : World} {A : Around} {E : Value → Shared → Prop} {s : Shared} {β : Type} {R : Value → β → Prop} {enc : β → PyData} {b0 : β} {bs : List β} {vs : List Value}
theorem sorted_tupZ {l : Addr} {Q : Value → Shared → Prop} (h0 : enc b0 = .tuple []) (ht : ∀ b, b ∈ bs → ∃ r, enc b = .tuple r) (hl : s.heap.IsList l vs.toArray) (e : EachIs R vs (b0 :: bs)) (er : EachIs (fun v b => ∃ as, Reads s.heap v (enc b) as) vs (b0 :: bs)) (hal : AllAlike ((b0 :: bs).map enc)) (hL : (b0 :: bs).length ≤ sizeLine)
    (hu : ∀ b, b ∈ b0 :: bs → A.units + 2 + (enc b).depth < cLine) (h : ∀ out, out.length = (b0 :: bs).length → EachIs R out ((b0 :: bs).mergeSort (dataLe false enc)) → Q (.ref (s.heap.objs.size + 1)) { s with heap := sortedAll s.heap vs (List.toArray out) }) :
    wpAny (model prog w) A (call (.builtin "sorted") [.ref l]) Q E s := by
  have er' : EachIs (fun v b => ∃ as, Reads (sortingHeap (copyHeap s.heap vs) (s.heap.objs.size + 1) vs) v (enc b) as) vs (b0 :: bs) := er.mono fun _ _ ⟨as, r⟩ => ⟨as, PyProof.Rows.Reads.keeps (fun _ _ => sorting_copy_old) r⟩
  have em := each_map (R := fun v d => ∃ as, Reads (sortingHeap (copyHeap s.heap vs) (s.heap.objs.size + 1) vs) v d as) enc er'
  have bm := bound_map (A := A.in1.in1) (enc := enc) (bs := b0 :: bs) hu
  have hal2 := hal
  rw [List.map_cons, h0] at em bm hal2
  refine sorted_vals (κ := dataKind (sortingHeap (copyHeap s.heap vs) (s.heap.objs.size + 1) vs) ((b0 :: bs).map enc)) hl ?_ (by rw [e.length]; exact hL) (h _ (by rw [sortVals_length false rfl]; exact e.length) (sortVals_data false e er' hal))
  rw [List.map_cons, h0]
  refine SortsAt.tupZ (s := { s with heap := sortingHeap (copyHeap s.heap vs) (s.heap.objs.size + 1) vs }) em hal2 (fun d hd => ?_) bm
  obtain ⟨b, hb, rfl⟩ := List.mem_map.mp hd
  exact ht b hb
end
end PySem.W
namespace L2
open PySem PySem.Spec PyProof.Rows PySem.W
section
variable {X : Cx} {pins : List (Addr × Obj)} {σ : St} {H : Hp} {s : Shared}
/-- sorted(xs): the items ascending as tuples are -/
def rSortT0 (K : PySem.W.Frag) : List V → Hp → VK → Prop := fun vs H Q => ∃ (a : Addr) (xs : List V) (bs : List (List Int)), vs = [V.ref a] ∧ SqL K H a xs ∧ Paired (TupI K H) xs ([] :: bs) ∧
  ∀ (ys : List V) (p : Addr), Paired (TupI K H) ys (([] :: bs).mergeSort fun p q => decide (p ≤ q)) → H p = none → Q (.ref p) (upd H p (.lst ys))
theorem cr_sortT0 (hu : X.A.units + 65 < cLine) : CallR X (.builtin "sorted") (rSortT0 X.K) := by
  intro pins s σ H vs us Q I r h
  obtain ⟨a, xs, bs, rfl, hs, hp, q⟩ := h
  obtain ⟨its, rv, hl, hz⟩ := I.list hs
  rw [Vals.ref1 r]
  have e0 : EachIs (TupV X.K H) its ([] :: bs) := tupV_of hp rv
  have hlen : ([] :: bs).length = xs.length := (Paired.length hp).symm
  refine sorted_tupZ (A := X.A) (R := TupV X.K H) (enc := tupE) rfl (fun b _ => ⟨_, rfl⟩) hl.isList e0 (e0.mono fun u ns h => tupV_reads I h) (AllAlike.of fun b b' => by simp [alike, alike_ints]) (by rw [hlen]; exact hz) (fun b _ => ?_) fun out ho eo => ?_
  · have : (tupE b).depth ≤ 1 := by simp [PyData.depth, depth_ints]
    omega
  · rw [tupE_le] at eo
    obtain ⟨e1, e2⟩ := tupV_to eo
    obtain ⟨ep, he'⟩ := PyProof.Rows.sortedAll_at s.heap its out.toArray
    have hz2 : (out.map bkV).length ≤ sizeLine := by
      rw [List.length_map, ho, hlen]
      exact hz
    exact ⟨.ref _, upd H (s.heap.objs.size + 1) (.lst (out.map bkV)), I.laid (t' := s.toks) (fun _ _ => PyProof.Rows.sortedAll_old) (Nat.le_succ _) ⟨hz2, out, ep, bkV_vals e2, he'⟩, rfl, q _ _ e1 (I.hok.fresh (Nat.le_succ _))⟩
end
end L2

set_option Elab.async false
set_option linter.all false
set_option maxRecDepth 100000
set_option maxHeartbeats 4000000
/-! o.m(e, .., k = v, ..); an expression read in one of two ways -/
namespace L2
open PySem PySem.Spec PyProof.Rows PySem.W
/-- a method with keywords -/
def tMethN (C : Addr) (m : Str) (n j : Nat) (sp : Sp) (gV : List V → List V → List V) (E : XK) (ta : TE) (t tk : TA) : TE := fun σ H Q => ta σ H fun x H1 => ∃ a dx fs, x = .ref a ∧ H1 a = some (.ins C dx fs) ∧ fs.lookup m = none ∧
  t σ H1 fun vs H2 => tk σ H2 fun zs H3 => vs.length = n ∧ zs.length = j ∧ sp (gV (x :: vs) zs) H3 Q E
section
variable {X : Cx} {CX : CXT} {k n : Nat} {f C : Addr} {fd : FuncData} {ps ks : List Str} {sp : Sp} {E : XK} {m : Str} {pos apos : Pos} {e o : Expr} {es : List Expr} {kws : List Keyword} {ta : TE} {t tk : TA} {g : List Value → List Value → List Value} {gV : List V → List V → List V}
theorem pe_methN {pl : Sem Bool} (he : PE X o ta) (c : Cls X.K C) (hm : Meth X.K C m f) (F : FnOk X.prog X.w X.K X.mg X.base CX k f fd ps sp) (hr : Room k X.A) (hb : KBn X.K fd ps (n + 1) ks g gV) (hx : Passes CX X E) (ha : PA X (e :: es) t) (hkw : PK X kws tk)
    (hall : (backToKw pos (keywordEach kws X.env)).all (·.1.isSome) = true := by rfl) (hks : (backToKw pos (keywordEach kws X.env)).filterMap (·.1) = ks := by rfl)
    (hst : starEach (e :: es) X.env = (false, eval e X.env) :: starEach es X.env := by rfl) (hpl : ((backTo pos (starEach (e :: es) X.env)).any (·.1) || (backToKw pos (keywordEach kws X.env)).any (·.1.isNone)) = false := by rfl)
    (ht : eval (.Call (.Attribute o m apos) (e :: es) kws pos) X.env = (do
      let ov ← eval o X.env
      standAt apos.atName
      let (f, first) ← holding [ov] (getMethod ov m pl)
      callWith pos f first (backTo pos (starEach (e :: es) X.env)) (backToKw pos (keywordEach kws X.env))) := by rfl) :
    PE X (.Call (.Attribute o m apos) (e :: es) kws pos) (tMethN C m n ks.length sp gV E ta t tk) := by
  refine ⟨fun pins s σ H Q I h => ?_⟩
  refine PySem.W.methodCall_KW (pl := pl) (thn (he.run pins s σ H _ I h) fun u s1 ⟨x, H1, I1, rx, a, dx, fs, ex, ea, l, q⟩ => ?_) ht
  subst ex
  obtain rfl : u = Value.ref a := rx
  refine getmeth_ok I1 ea c hm l ?_
  refine PySem.W.callWith_KW (first := [.ref a]) (h₀ := X.base) I.ok.mod.kin hm.kp hall (thn (ha.run pos pins s1 σ H1 _ I1 q) fun us s2 ⟨vs, H2, I2, r, q2⟩ => ?_) hpl hst
  refine thn (hkw.run pos pins s2 σ H2 _ I2 q2) fun ws s3 ⟨zs, H3, I3, rz, l1, l2, q3⟩ => ⟨I3.kIn, ?_⟩
  rw [hks]
  exact run_fnN (us := .ref a :: us) (vs := .ref a :: vs) F hr hb hx I3 (.cons rfl r) rz (by rw [List.length_cons, l1]) l2 q3
/-- an expression that may be read in two ways -/
theorem pe_two {a : Expr} {t1 t2 : TE} (h1 : PE X a t1) (h2 : PE X a t2) : PE X a (fun σ H Q => t1 σ H Q ∨ t2 σ H Q) :=
  ⟨fun pins s σ H Q I h => h.elim (h1.run pins s σ H Q I) (h2.run pins s σ H Q I)⟩
end
end L2

set_option Elab.async false
set_option linter.all false
set_option maxRecDepth 100000
set_option maxHeartbeats 4000000
/-! zip over two tuples, as a walk; != of own objects of two classes -/
namespace L2
open PySem PySem.Spec PyProof.Rows
theorem walk_zipT {K : PySem.W.Frag} {a b : Addr} {xs ys : List V} {n : Nat} (hn : n = min xs.length ys.length) : Walk (RZ.ItzT K a b) n (fun H => SqT K H a xs ∧ SqT K H b ys) (YPair (fun i => xs[i]?) (fun i => ys[i]?)) := by
  subst hn
  refine ⟨fun i _ hi q => ?_, fun _ q => ⟨xs, ys, q.1, q.2, by omega⟩, fun i H v H' _ q y => ?_⟩
  · have h1 : i < xs.length := by omega
    have h2 : i < ys.length := by omega
    exact ⟨xs, ys, xs[i], ys[i], q.1, q.2, by simp [h1], by simp [h2]⟩
  · obtain ⟨T, x, z, h1, h2, h3, h4, h5⟩ := y
    exact ⟨T, x, z, h1, h2, h3, h4 xs q.1, h5 ys q.2⟩
end L2
namespace Tw
open PySem PySem.Spec PyProof.Rows L2
open PySem.W (InstAt looks_findIn looks_subIn ifBound_K cmp_K)
section
variable {X : Cx} {CX : CXT} {k : Nat} {f C D : Addr} {fd : FuncData} {ps : List Str} {sp : Sp} {E : XK}
/-- != where the other one is an object of another class -/
def rNeD (C D : Addr) (sp : Sp) (E : XK) : R2 := fun x y H Q =>
  ∃ a dx fs b dy gs, x = .ref a ∧ H a = some (.ins C dx fs) ∧ y = .ref b ∧ H b = some (.ins D dy gs) ∧ sp [.ref a, y] H (fun v H' => ∃ r, v = .bl r ∧ Q (.bl (!r)) H') E
theorem op_ne_two (c : EqC X.K C f) (hd : PySem.W.notFirst X.K C (.ref D) = true) (F : FnOk X.prog X.w X.K X.mg X.base CX k f fd ps sp) (hr : Room (k + 1) X.A) (hb : Binds X.K fd ps []) (hx : Passes CX X E) : OpR X (compareOp .NotEq) (rNeD C D sp E) := by
  intro pins s σ H x y v u Q I rx ry ⟨a, dx, fs, b, dy, gs, ex, ha, ey, hb2, q⟩
  subst ex
  subst ey
  obtain rfl : v = Value.ref a := rx
  obtain rfl : u = Value.ref b := ry
  obtain ⟨mA, O, rr, _, _, _⟩ := ins_get I.hok ha
  obtain ⟨od, J, hl⟩ := O.look
  obtain ⟨mB, OB, rrB, _, _, _⟩ := ins_get I.hok hb2
  obtain ⟨odB, JB, hlB⟩ := OB.look
  obtain ⟨m0, hF⟩ := I.fr
  show wpAny _ _ (richCompare .NotEq (.ref a) (.ref b)) _ _ _
  refine ne_K (Room.units0 hr.in1) hr.units0 hF I.ok.mod.kin J JB.type hd c (thn (run_sub F (Sub.in1 ⟨hr, rfl⟩) hb hx I (.cons (relR a) (.cons (relR b) .nil)) q) fun r s' ⟨z, H', I', rz, b2, ez, q'⟩ => ?_)
  subst ez
  exact ⟨b2, rz, _, H', I', relB (!b2), q'⟩
end
end Tw

set_option Elab.async false
set_option linter.all false
set_option maxRecDepth 100000
set_option maxHeartbeats 2000000
/-! own rules: xs.count(k), t.count(k) (whole numbers); sum(d.values()) -/
namespace L2
open PySem PySem.Spec PyProof.Rows L2
theorem plain_ints : ∀ ns : List Int, PyData.plainAll (ns.map PyData.int) = true
  | [] => rfl
  | n :: ns => by
    simp only [List.map_cons, PyData.plainAll, plain_ints ns]
    rfl
theorem count_ints (k : Int) : ∀ ns : List Int, (ns.map PyData.int).countP (fun y => PyData.eqv y (.int k)) = ns.count k
  | [] => rfl
  | n :: ns => by
    rw [List.map_cons, List.countP_cons, count_ints k ns, List.count_cons]
    have e : PyData.eqv (.int n) (.int k) = (n == k) := rfl
    rw [e]
theorem dpAll_ints (K : PySem.W.Frag) (H : Hp) : ∀ ns : List Int, DpAll K H (ns.map V.int) (ns.map PyData.int)
  | [] => .nil
  | n :: ns => .cons (.int n) (dpAll_ints K H ns)
section
variable {X : Cx}
def rCountL (K : PySem.W.Frag) : V → List V → Hp → VK → Prop := fun x vs H Q => ∃ (a : Addr) (ns : List Int) (k : Int), x = .ref a ∧ vs = [.int k] ∧ SqL K H a (ns.map V.int) ∧ Q (.int (ns.count k : Nat)) H
def rCountT (K : PySem.W.Frag) : V → List V → Hp → VK → Prop := fun x vs H Q => ∃ (a : Addr) (ns : List Int) (k : Int), x = .ref a ∧ vs = [.int k] ∧ SqT K H a (ns.map V.int) ∧ Q (.int (ns.count k : Nat)) H
theorem mt_countL (hu : X.A.units + 65 < cLine) : MtR X "list.count" (rCountL X.K) := by
  intro pins s σ H x xs v us Q I rx rxs h
  obtain ⟨a, ns, k, rfl, rfl, hl, q⟩ := h
  cases rx
  cases rxs with
  | cons ry rt =>
    rename_i uy ut
    cases rt
    obtain ⟨its, rv, pl, hlen⟩ := I.list hl
    obtain ⟨as, h4⟩ := Dp.readsAll I (ns.map PyData.int) _ its (dpAll_ints _ _ ns) rv
    obtain ⟨bs, r1⟩ := Dp.reads I (.int k) _ uy (.int k) ry
    refine PySem.SeqAt.count_list_data (xs := ns.map PyData.int) (d := .int k) pl.isList h4 r1 (plain_ints ns) rfl (Nat.lt_of_le_of_lt (Nat.add_le_add_left (Nat.min_le_right _ _) _) (by simp only [PyData.depth]; omega)) ?_
    rw [count_ints]
    exact ⟨.int _, H, I.tok _, ⟨_, rfl⟩, q⟩
theorem mt_countT (hu : X.A.units + 65 < cLine) : MtR X "tuple.count" (rCountT X.K) := by
  intro pins s σ H x xs v us Q I rx rxs h
  obtain ⟨a, ns, k, rfl, rfl, hl, q⟩ := h
  cases rx
  cases rxs with
  | cons ry rt =>
    rename_i uy ut
    cases rt
    obtain ⟨its, rv, pl, hlen⟩ := I.tuple hl
    obtain ⟨as, h4⟩ := Dp.readsAll I (ns.map PyData.int) _ its (dpAll_ints _ _ ns) rv
    obtain ⟨bs, r1⟩ := Dp.reads I (.int k) _ uy (.int k) ry
    refine PySem.SeqAt.count_tuple_data (xs := ns.map PyData.int) (d := .int k) pl h4 r1 (plain_ints ns) rfl (Nat.lt_of_le_of_lt (Nat.add_le_add_left (Nat.min_le_right _ _) _) (by simp only [PyData.depth]; omega)) ?_
    rw [count_ints]
    exact ⟨.int _, H, I.tok _, ⟨_, rfl⟩, q⟩
theorem preSum_list : ∀ (is : List Int) (n : Nat), preSum (fun i => is.getD i 0) n = (is.take n).sum := by
  intro is n
  induction n with
  | zero => rfl
  | succ n ih =>
    rw [preSum, ih]
    by_cases h : n < is.length
    · rw [← List.take_append_getElem h, List.sum_append, List.getD_eq_getElem?_getD, List.getElem?_eq_getElem h]
      simp
    · rw [List.take_of_length_le (by omega), List.take_of_length_le (by omega), List.getD_eq_getElem?_getD, List.getElem?_eq_none (by omega)]
      simp
/-- sum(o.values()), a dict with int values -/
def tSumVals (td : TE) : TE := fun σ H Q => td σ H fun x H1 => ∃ (a : Addr) (kvs : List (Key × V)) (is : List Int), x = V.ref a ∧ H1 a = some (.dK kvs) ∧ kvs.map (·.2) = is.map V.int ∧ Q (.int is.sum) H1
variable {o : Expr} {p pos apos mpos : Pos} {td : TE}
theorem pe_sumVals (hc : X.calm = true) (hg : Gl X "sum") (hm : X.mg "sum" = none) (hd : PE X o td) (hbase : attributeBase o "values" X.env (eval o X.env) = eval o X.env := by rfl) (hline : (apos.endLine == mpos.line) = true := by rfl)
    (hse : starEach [Expr.Call (.Attribute o "values" apos) [] [] mpos] X.env = [(false, eval (Expr.Call (.Attribute o "values" apos) [] [] mpos) X.env)] := by rfl) :
    PE X (.Call (.Name "sum" p) [.Call (.Attribute o "values" apos) [] [] mpos] [] pos) (tSumVals td) := by
  refine ⟨fun pins s σ H Q I h => ?_⟩
  refine wpAny_Call_Name_kw (ld_blt I hg hm (u := .builtin "sum") (by first | rfl | decide +kernel) ?_ (by first | decide +kernel | decide) (by first | decide +kernel | decide))
  rw [hse]
  refine PySem.callWith_builtin1 (wpAny_Call_method0_late hbase hline (thn (hd.run pins s σ H _ I h) fun v s1 ⟨x, H1, I1, r1, a, kvs, is, ex, ha, hv, q⟩ => ?_))
  subst ex
  obtain rfl : v = Value.ref a := r1
  obtain ⟨_, hsys, vs, rel, dof⟩ := dk_of I1.hok ha
  obtain ⟨ep, dat⟩ := dof.dictAt
  have dat' := dat
  obtain ⟨ob, es, ho, ex, hdat, hko, hpr, hnd⟩ := dat'
  refine ⟨"dict", "dict.values", F.plainAttrs_dict, F.slot_dict_values, F.type_dict_values, ⟨ob, ho, ex.1⟩, fun b e => ?_, Calls.callWith_builtin rfl (PySem.evalArgs_none ?_)⟩
  · cases e
    exact ⟨ob, ho, ex.2.1⟩
  refine call_meetsIn F.slot_dict_values ⟨ob, ho, ex.1⟩ F.entry_dict_values (F.args_dict_values_1 _) (meets_dict_values (mixKind X.prog X.w) a hsys) ⟨⟨vs, dof⟩, ?_⟩
  have k1 : ∀ b u, s1.heap.get? b = some u → (s1.heap.push { cls := .type "dict_values", data := .fields #[.ref a] }).get? b = some u := fun b u e => Heap.get?_push_of_some _ e
  have dat1 : (s1.heap.push { cls := .type "dict_values", data := .fields #[.ref a] }).DictAt (mixKind X.prog X.w) a vs ep := dat.keep k1
  have hlv : vs.length = is.length := by
    have e1 := congrArg List.length hv
    rw [List.length_map, List.length_map] at e1
    rw [← e1]
    exact (KV.length rel).symm
  have hval : ∀ (i : Nat) (v : Value), (∃ k, vs[i]? = some (k, v)) → ∃ t, v = Value.int (is.getD i 0) t := fun i v ⟨k, hk⟩ => by
    obtain ⟨x, h1, h2⟩ := KV.at' rel hk
    have e1 : (kvs.map (·.2))[i]? = some x := by rw [List.getElem?_map, h1] <;> rfl
    rw [hv, List.getElem?_map] at e1
    obtain ⟨j, hj, e2⟩ := Option.map_eq_some_iff.mp e1
    subst e2
    obtain ⟨t, e3⟩ := h2
    refine ⟨t, ?_⟩
    rw [e3, List.getD_eq_getElem?_getD, hj] <;> rfl
  refine call_sum_walkG (wpAny_pyIter_values (v := s1.heap.objs.size) (d := a) ⟨_, Heap.get?_push_size _ rfl, rfl, rfl⟩ dat1 ?_)
  have hlt : a < s1.heap.objs.size := Heap.lt_size ho
  have hsz : (s1.heap.push { cls := .type "dict_values", data := .fields #[.ref a] }).objs.size = s1.heap.objs.size + 1 := Heap.size_push _ _
  refine ⟨_, _, _, _, _, _, fun i => is.getD i 0, rfl, Walks.dictValues (knd := mixKind X.prog X.w) (A := X.A.in1) (I.ok.hd hc) (s1.heap.push { cls := .type "dict_values", data := .fields #[.ref a] }).objs.size a (by rw [hsz]; exact Nat.ne_of_lt (Nat.lt_succ_of_lt hlt)) vs ep,
    ⟨⟨_, Heap.get?_push_size _ rfl, rfl, rfl⟩, dat1.keep fun b u e => Heap.get?_push_of_some _ e⟩, fun b hb => ?_, hval, fun h' tk t' hk => ?_⟩
  · show b < ((s1.heap.push _).push _).objs.size
    rw [Heap.size_push, Heap.size_push]
    rw [hsz] at hb
    rcases List.mem_cons.mp hb with e | hb
    · rw [e]
      exact Nat.lt_succ_self _
    · have e : b = a := List.mem_singleton.mp hb
      rw [e]
      exact Nat.lt_succ_of_lt (Nat.lt_succ_of_lt hlt)
  · rw [preSum_list, hlv, List.take_length]
    refine ⟨.int _, H1, I1.kept (t' := tk) fun b u e => hk b u (fun hmem => ?_) (Heap.get?_push_of_some _ (k1 b u e)), ⟨t', rfl⟩, q⟩
    have e1 : b = (s1.heap.push { cls := .type "dict_values", data := .fields #[.ref a] }).objs.size := List.mem_singleton.mp hmem
    have e2 := Heap.lt_size e
    rw [hsz] at e1
    rw [e1] at e2
    exact absurd e2 (Nat.not_lt.mpr (Nat.le_succ _))
end
/-- a dict by a comprehension, over any walk -/
theorem dc_it {J : It} {n : Nat} {G : Hp → Prop} {Y : Nat → Hp → V → Hp → Prop} (w : Walk J n G Y) {g : TG} {tt : TT} {tk tv : TE} {vs : List Nat} {σ : St} {H1 : Hp} {D : Addr} {Qd : Hp → Prop} (Pv : Nat → Hp → Prop) (h0 : Pv 0 (upd H1 D (.dK []))) (hG : ∀ i H, i ≤ n → Pv i H → G H)
    (hs : ∀ i x H H', i < n → Pv i H → Y i H x H' → g x (wipe σ vs) H' fun σ2 H2 => wipe σ2 vs = wipe σ vs ∧ tt σ2 H2 fun b H3 =>
      if b = true then tk σ2 H3 fun y H4 => tv σ2 H4 fun z H5 => ∃ kvs k, y = kV k ∧ H5 D = some (.dK kvs) ∧ kvs.length < sizeLine ∧ Pv (i + 1) (upd H5 D (.dK (putK kvs k z))) else Pv (i + 1) H3) (hd : ∀ H, Pv n H → Qd H) :
    ∃ W : Nat → Nat → Hp → Prop, (∃ m, W 0 m (upd H1 D (.dK []))) ∧ ∀ i m H, W i m H →
      (J.stop i H ∧ Qd H) ∨ (J.go i H ∧ ∃ Nx : Hp → Prop, (∀ H', Nx H' → ∃ m', m' < m ∧ W (i + 1) m' H') ∧ ∀ x H', J.yld i H x H' → g x (wipe σ vs) H' fun σ2 H2 => wipe σ2 vs = wipe σ vs ∧ tt σ2 H2 fun b H3 =>
        if b = true then tk σ2 H3 fun y H4 => tv σ2 H4 fun z H5 => ∃ kvs k, y = kV k ∧ H5 D = some (.dK kvs) ∧ kvs.length < sizeLine ∧ Nx (upd H5 D (.dK (putK kvs k z))) else Nx H3) := by
  refine ⟨fun i m H => m = n - i ∧ i ≤ n ∧ Pv i H, ⟨n, by simp, Nat.zero_le _, h0⟩, ?_⟩
  rintro i m H ⟨rfl, hi, p⟩
  have q := hG i H hi p
  by_cases hlt : i < n
  · refine .inr ⟨w.goes i H hlt q, Pv (i + 1), fun H' p' => ⟨n - (i + 1), by omega, rfl, hlt, p'⟩, fun x H' y => hs i x H H' hlt p (w.yields i H x H' hlt q y)⟩
  · have e : i = n := by omega
    subst e
    exact .inl ⟨w.stops H q, hd H p⟩
/-- what stays while a thing is locked stays behind -/
theorem same_lock {H H' : Hp} {d : Addr} {u v : HO} (h : H d = some u) (s : Same (upd H d v) H') : Same H (upd H' d u) := fun b o e => by
  by_cases hb : b = d
  · subst hb
    rw [upd_same, ← h, e]
  · rw [upd_ne hb]
    exact s b o (by rw [upd_ne hb]; exact e)
theorem ite_b {b c : Bool} {A B : Prop} (h : b = c) (k : if c = true then A else B) : if b = true then A else B := h ▸ k
/-- set(xs), xs a list or a tuple of whole numbers -/
def rSetSq (K : PySem.W.Frag) (w : World) : List V → Hp → VK → Prop := fun xs H Q => ∃ (l : Addr) (ns : List Int), xs = [V.ref l] ∧ (SqL K H l (ns.map V.int) ∨ SqT K H l (ns.map V.int)) ∧ ns.length ≤ 1000 ∧ ∀ p n, n ≤ ns.length → H p = none → Q (.ref p) (upd H p (SetO w p (fun j => decide (j ∈ ns)) n))
theorem cr_setSq {X : Cx} (hc : X.calm = true) : CallR X (.type "set") (rSetSq X.K X.w) := by
  intro pins s σ H vs us Q I rv ⟨l, ns, e, h, hl, q⟩
  rcases h with h | h
  · exact cr_setLI hc pins s σ H vs us Q I rv ⟨l, ns, e, h, hl, q⟩
  · exact cr_setTI hc pins s σ H vs us Q I rv ⟨l, ns, e, h, hl, q⟩
end L2

set_option Elab.async false
set_option linter.all false
set_option maxRecDepth 100000
set_option maxHeartbeats 2000000
/-! own rules: tuples of which it is known that they have no dict of their own: their methods -/
namespace L2
open PySem PySem.Spec PyProof.Rows L2
/-- a tuple that was made by tuple(..), with the object that it is -/
def TupF (H : Hp) (a : Addr) (xs : List V) : Prop := ∃ o : Obj, H a = some (.frz o (.tup xs)) ∧ o.dict = none
theorem TupF.same {H H' : Hp} {a : Addr} {xs : List V} (h : TupF H a xs) (s : Same H H') : TupF H' a xs := let ⟨o, e, d⟩ := h; ⟨o, s _ _ e, d⟩
theorem TupF.sq {K : PySem.W.Frag} {H : Hp} {a : Addr} {xs : List V} (h : TupF H a xs) : SqT K H a xs := let ⟨o, e, _⟩ := h; .inl (.inr ⟨o, e⟩)
section
variable {X : Cx}
/-- tuple(xs) of a list; of such a tuple itself -/
def rTupF (K : PySem.W.Frag) : List V → Hp → VK → Prop := fun xs H Q => ∃ p ys, xs = [V.ref p] ∧ ((SqL K H p ys ∧ ∀ l o, H l = none → o.dict = none → Q (.ref l) (upd H l (.frz o (.tup ys)))) ∨ (SqT K H p ys ∧ Q (.ref p) H))
theorem call_tupF : CallR X (.type "tuple") (rTupF X.K) := by
  intro pins s σ H xs us Q I r h
  obtain ⟨p, ys, rfl, h⟩ := h
  rcases h with ⟨hq, q⟩ | ⟨hq, q⟩
  · obtain ⟨u, rfl, rx⟩ := vals1 r
    cases rx
    obtain ⟨its, r', pl, hz⟩ := I.list hq
    have hlen := r'.length
    refine call_tuple_list pl.isList (fun h' kp => ?_) (by simp only [List.size_toArray] <;> omega)
    have I1 : Inv X pins σ H { s with heap := h' } := I.kept (t' := s.toks) kp
    have I2 : Inv X pins σ (upd H h'.objs.size (.frz { cls := .type "tuple", data := .seq its.toArray } (.tup ys))) { s with heap := h'.push { cls := .type "tuple", data := .seq its.toArray } } :=
      I1.laid (t' := s.toks) (fun b o e => Heap.get?_push_of_some _ e) (Nat.le_refl _) (show ObjOk X.prog X.w _ _ _ (.frz _ (.tup ys)) from ⟨Heap.get?_push_size _ rfl, hz, its, r', IsTup.new _ _⟩)
    exact ⟨.ref h'.objs.size, _, I2, rfl, q _ _ (I1.hok.fresh (Nat.le_refl _)) rfl⟩
  · exact call_tuple_of pins s σ H _ us Q I r ⟨p, ys, rfl, .inr ⟨hq, q⟩⟩
def tBMF (r : V → List V → Hp → VK → Prop) (to : TE) (t : TA) : TE := fun σ H Q => to σ H fun x H1 => (∃ a xs, x = .ref a ∧ TupF H1 a xs) ∧ t σ H1 fun xs H2 => r x xs H2 Q
variable {o e : Expr} {es : List Expr} {to : TE} {t : TA} {name : Str} {apos cpos : Pos} {T id : String} {r : V → List V → Hp → VK → Prop}
theorem pe_bmF (slot : Slot "tuple" name id) (hty : typeOf (.builtin id) = pure (.type "method_descriptor")) (hm : MtR X id r) (ho : PE X o to) (ha : PA X (e :: es) t)
    (hbase : attributeBase o name X.env (eval o X.env) = eval o X.env := by rfl)
    (hfew : ((backTo cpos (starEach (e :: es) X.env)).all (fun x => !x.1) && (backToKw cpos (keywordEach [] X.env)).all (fun x => x.1.isSome)
      && decide ((e :: es).length + ([] : List Keyword).length + (if ([] : List Keyword).isEmpty then 0 else 1) < 30)) = true := by rfl)
    (hline : (apos.endLine == cpos.line) = true := by rfl) (hs : starEach (e :: es) X.env = (false, eval e X.env) :: starEach es X.env := by rfl) (hplain : (backTo cpos (starEach es X.env)).any (·.1) = false := by rfl) :
    PE X (.Call (.Attribute o name apos) (e :: es) [] cpos) (tBMF r to t) := by
  refine ⟨fun pins s σ H Q I h => ?_⟩
  refine wpAny_Call_method_late hbase hfew hline rfl (thn (ho.run pins s σ H _ I h) fun v s1 ⟨x, H1, I1, r1, ty, q1⟩ => ?_)
  obtain ⟨a, xs, rfl, oo, ho2, hd⟩ := ty
  cases r1
  obtain ⟨g1, g2⟩ := I1.hok a _ ho2
  obtain ⟨hz, its, rv, hit⟩ := g2
  obtain ⟨o2, e2, hc, n2, hdat⟩ := hit
  rw [g1] at e2
  cases e2
  refine ⟨"tuple", id, F.plainAttrs_tuple, slot, hty, ⟨_, g1, hc⟩, fun b eb => ?_, ?_⟩
  · cases eb
    exact ⟨_, g1, hd⟩
  have hA := ha.run cpos pins s1 σ H1 _ I1 q1
  rw [hs] at hA ⊢
  refine Calls.callWith_builtin (by show (false || (backTo cpos (starEach es X.env)).any (·.1)) = false; rw [hplain] <;> rfl) (Calls.evalArgs_plain ?_)
  exact thn hA fun us s2 ⟨vs, H2, I2, r2, q2⟩ => hm pins s2 σ H2 (.ref a) vs _ us Q I2 (show RelV (.ref a) (Value.ref a) from rfl) r2 q2
theorem lay_ints : ∀ ns : List Int, PyData.canLayAll0 (ns.map PyData.int) = true
  | [] => rfl
  | n :: ns => by
    rw [List.map_cons, PyData.canLayAll0, lay_ints ns]
    rfl
/-- t.index(k), whole numbers, k there -/
def rIndexT (K : PySem.W.Frag) : V → List V → Hp → VK → Prop := fun x vs H Q => ∃ (a : Addr) (ns : List Int) (k : Int) (j : Nat), x = .ref a ∧ vs = [.int k] ∧ SqT K H a (ns.map V.int) ∧ ns[j]? = some k ∧ (∀ m, m < j → ns[m]? ≠ some k) ∧ Q (.int (j : Nat)) H
theorem mt_indexTI (hu : X.A.units + 65 < cLine) : MtR X "tuple.index" (rIndexT X.K) := by
  intro pins s σ H x xs v us Q I rx rxs h
  obtain ⟨a, ns, k, j, rfl, rfl, hl, hj, hno, q⟩ := h
  cases rx
  cases rxs with
  | cons ry rt =>
    rename_i uy ut
    cases rt
    obtain ⟨its, rv, pl, hlen⟩ := I.tuple hl
    obtain ⟨as, h4⟩ := Dp.readsAll I (ns.map PyData.int) _ its (dpAll_ints _ _ ns) rv
    obtain ⟨bs, r1⟩ := Dp.reads I (.int k) _ uy (.int k) ry
    have hjl := (List.getElem?_eq_some_iff.mp hj).1
    have hvl := rv.length
    rw [List.length_map] at hvl hlen
    obtain ⟨⟨cls, dd, data, sl⟩, ho, hc, n, hd'⟩ := id pl
    simp only at hc hd'
    subst hc hd'
    have hxs : PyData.canLayAll0 (ns.map PyData.int) = true := lay_ints ns
    have hmap : its.map (SeqAt.readOf s.heap) = ns.map PyData.int := SeqAt.readsAll_map _ its as hxs h4
    have at_ : ∀ (m : Nat) (hm : m < its.toArray.size) (z : Int), ns[m]? = some z → SeqAt.readOf s.heap its.toArray[m] = .int z := by
      intro m hm z hz
      have hml : m < its.length := by simpa using hm
      have e1 : (its.map (SeqAt.readOf s.heap))[m]? = some (.int z) := by rw [hmap, List.getElem?_map, hz]; rfl
      rw [List.getElem?_map, List.getElem?_eq_getElem hml] at e1
      have e2 : SeqAt.readOf s.heap its[m] = .int z := Option.some.inj e1
      simpa using e2
    have hj2 : j < its.toArray.size := by simp only [List.size_toArray]; omega
    refine call_meets F.slot_tuple_index ⟨_, ho, rfl⟩ F.entry_tuple_index (F.args_tuple_index_2 _ _)
      (TI.tuple_indexAt a its.toArray n dd sl uy (fun u => PyData.eqv (SeqAt.readOf s.heap u) (.int k)) j hj2 ?_ ?_) ⟨ho, SeqAt.items_eqAt (vs := its.toArray) (show ReadsAll s.heap its.toArray.toList (ns.map PyData.int) as from h4) r1 hxs rfl (Nat.lt_of_le_of_lt (Nat.add_le_add_left (Nat.min_le_right _ _) _) (by simp only [PyData.depth]; omega)), ?_⟩
    · show PyData.eqv (SeqAt.readOf s.heap its.toArray[j]) (.int k) = true
      rw [at_ j hj2 k hj]
      show (k == k) = true
      exact beq_self_eq_true k
    · intro m hm hmj
      have hmn : m < ns.length := by simp only [List.size_toArray] at hm; omega
      have hz : ns[m]? = some ns[m] := List.getElem?_eq_getElem hmn
      show PyData.eqv (SeqAt.readOf s.heap its.toArray[m]) (.int k) = false
      rw [at_ m hm _ hz]
      show (ns[m] == k) = false
      exact beq_eq_false_iff_ne.mpr fun z => hno m hmj (by rw [hz, z])
    · exact ⟨.int (j : Nat), H, I.tok _, ⟨_, rfl⟩, q⟩
/-- x.count(y), two names, x a list or a known tuple of whole numbers -/
def tCnt (K : PySem.W.Frag) (i j : Nat) : TE := fun σ H Q => ∃ (a : Addr) (ns : List Int) (k : Int), σ[i]? = some (some (.ref a)) ∧ σ[j]? = some (some (.int k)) ∧ (SqL K H a (ns.map V.int) ∨ TupF H a (ns.map V.int)) ∧ Q (.int (ns.count k : Nat)) H
theorem pe_cnt {e : Expr} {i j : Nat} (h1 : PE X e (tBM X.K "list" (rCountL X.K) (tVar i) (tCons (tVar j) tNil))) (h2 : PE X e (tBMF (rCountT X.K) (tVar i) (tCons (tVar j) tNil))) : PE X e (tCnt X.K i j) := by
  refine ⟨fun pins s σ H Q I h => ?_⟩
  obtain ⟨a, ns, k, e1, e2, h, q⟩ := h
  rcases h with h | h
  · exact h1.run pins s σ H Q I ⟨_, e1, .inl ⟨rfl, _, h⟩, _, e2, a, ns, k, rfl, rfl, h, q⟩
  · exact h2.run pins s σ H Q I ⟨_, e1, ⟨a, _, rfl, h⟩, _, e2, a, ns, k, rfl, rfl, h.sq, q⟩
end
/-- two promises of one def -/
theorem FnOk.or {P : Program} {w : World} {K : PySem.W.Frag} {mg : Str → Option Value} {base : Heap} {CX : CXT} {k : Nat} {f : Addr} {fd : FuncData} {ps : List Str} {s1 s2 : Sp} (F1 : FnOk P w K mg base CX k f fd ps s1) (F2 : FnOk P w K mg base CX k f fd ps s2) :
    FnOk P w K mg base CX k f fd ps (fun vs H Q E => s1 vs H Q E ∨ s2 vs H Q E) := by
  refine ⟨fun vs H Q E h => h.elim (F1.len vs H Q E) (F2.len vs H Q E), ?_⟩
  intro A outer s H args us vs Q E hr e b
  have h1 := F1.run A outer s H args us vs Q E hr e b
  have h2 := F2.run A outer s H args us vs Q E hr e b
  intros
  first
    | (rename_i h; exact h.elim (fun z => h1 (by assumption) z) (fun z => h2 (by assumption) z))
    | (rename_i h; exact h.elim h1 h2)
end L2

set_option Elab.async false
set_option linter.all false
set_option maxRecDepth 100000
set_option maxHeartbeats 2000000
/-! own rules: tuple(xs), xs a list or a tuple, in one reading -/
namespace L2
open PySem PySem.Spec PyProof.Rows L2
def rTupU : List V → Hp → VK → Prop := fun xs H Q => ∃ p ys, xs = [V.ref p] ∧ (H p = some (.lst ys) ∨ H p = some (.tup ys)) ∧ ∀ t H', Same H H' → H' t = some (.tup ys) → Q (.ref t) H'
theorem call_tupU {X : Cx} : CallR X (.type "tuple") rTupU := by
  intro pins s σ H xs us Q I r ⟨p, ys, e, h, q⟩
  rcases h with h | h
  · exact call_tuple_of pins s σ H xs us Q I r ⟨p, ys, e, .inl ⟨SqL.of h, fun l nl => q l _ (fun b o e => by rw [upd_ne (ne_of_none e nl)]; exact e) upd_same⟩⟩
  · exact call_tuple_of pins s σ H xs us Q I r ⟨p, ys, e, .inr ⟨SqT.of h, q p H (Same.refl _) h⟩⟩
def rCatU : R2 := fun x y H Q => ∃ a b xs ys, x = .ref a ∧ y = .ref b ∧ H a = some (.tup xs) ∧ H b = some (.tup ys) ∧ xs.length + ys.length ≤ sizeLine ∧ ∀ t H', Same H H' → H' t = some (.tup (xs ++ ys)) → Q (.ref t) H'
theorem op_catU {X : Cx} : OpR X (binaryOp .Add) rCatU := by
  intro pins s σ H x y v u Q I rx ry h
  obtain ⟨a, b, xs, ys, ex, ey, ha, hb, hz, q⟩ := h
  refine op_catA pins s σ H x y v u Q I rx ry ⟨a, b, xs, ys, ex, ey, SqT.of ha, SqT.of hb, hz, fun e => ?_, fun _ e => ?_, fun _ _ p np => q p _ (fun b o e => by rw [upd_ne (ne_of_none e np)]; exact e) upd_same⟩
  · exact q b H (fun _ _ e => e) (by rw [e]; exact hb)
  · exact q a H (fun _ _ e => e) (by rw [e, List.append_nil]; exact ha)
def rSlU : V → Option Int → Option Int → Hp → VK → Prop := fun x lo hi H Q => ∃ a xs, x = .ref a ∧ H a = some (.tup xs) ∧ ∀ (p : Addr) (H' : Hp), Same H H' → H' p = some (.tup (cutV xs lo hi)) → Q (.ref p) H'
theorem sl_tupU {X : Cx} : SlR X rSlU := by
  intro pins s σ H x v vl vu lo hi sl Q I rx hs pl pu h
  obtain ⟨a, xs, ex, hx, q⟩ := h
  refine sl_tupA pins s σ H x v vl vu lo hi sl Q I rx hs pl pu ⟨a, xs, ex, SqT.of hx, fun y => ?_, fun _ p np => q p _ (fun b o e => by rw [upd_ne (ne_of_none e np)]; exact e) upd_same⟩
  refine q a H (fun _ _ e => e) ?_
  have : cutV xs lo hi = xs := by
    unfold cutV
    rw [y.1, y.2, List.drop_zero, Nat.sub_zero, List.take_length]
  rw [this]
  exact hx
end L2
namespace Tw
open PySem PySem.Spec PyProof.Rows L2 PySem.W
section
variable {X : Cx} {CX : CXT} {k : Nat} {f C D : Addr} {fd : FuncData} {ps : List Str} {sp : Sp} {E : XK}
theorem op_eq_two (c : EqC X.K C f) (hd : PySem.W.notFirst X.K C (.ref D) = true) (F : FnOk X.prog X.w X.K X.mg X.base CX k f fd ps sp) (hr : Room k X.A) (hb : Binds X.K fd ps []) (hx : Passes CX X E) : OpR X (compareOp .Eq) (fun x y H Q =>
  ∃ a dx fs b dy gs, x = .ref a ∧ H a = some (.ins C dx fs) ∧ y = .ref b ∧ H b = some (.ins D dy gs) ∧ sp [.ref a, y] H (fun v H' => ∃ r, v = .bl r ∧ Q (.bl r) H') E) := by
  intro pins s σ H x y v u Q I rx ry ⟨a, dx, fs, b, dy, gs, ex, ha, ey, hb2, q⟩
  subst ex
  subst ey
  obtain rfl : v = Value.ref a := rx
  obtain rfl : u = Value.ref b := ry
  obtain ⟨mA, O, rr, _, _, _⟩ := ins_get I.hok ha
  obtain ⟨od, J, hl⟩ := O.look
  obtain ⟨mB, OB, rrB, _, _, _⟩ := ins_get I.hok hb2
  obtain ⟨odB, JB, hlB⟩ := OB.look
  obtain ⟨m0, hF⟩ := I.fr
  show wpAny _ _ (richCompare .Eq (.ref a) (.ref b)) _ _ _
  refine cmp_K hr.units0 hF I.ok.mod.kin J JB.type hd c.eq c.fn (thn (run_sub F ⟨hr, rfl⟩ hb hx I (.cons (relR a) (.cons (relR b) .nil)) q) fun r s' ⟨z, H', I', rz, b2, ez, q'⟩ => ?_)
  subst ez
  obtain rfl : r = Value.bool b2 := rz
  exact ⟨_, H', I', relB b2, q'⟩
end
end Tw

set_option Elab.async false
set_option linter.all false
set_option maxRecDepth 100000
set_option maxHeartbeats 2000000
/-! own rules: min(xs, key=lambda x: ys[x]), ys a tuple, a name of the def; t[::-1], t a tuple -/
namespace Cl
open PySem PySem.Spec PyProof.Rows L2 LamX
theorem tuple_getitem_lookup : typeLookup (Value.type "tuple") (Str.ofString "__getitem__") = pure (some (Value.builtin "tuple.__getitem__")) := rfl
section
variable {prog : Program} {w : World} {A : Around} {E : Value → Shared → Prop} {s : Shared}
theorem seqT {i : Int} {vs : List Value} {u : Value} (h0 : 0 ≤ i) (h : vs[i.toNat]? = some u) : seqIndex? i vs.toArray.size = some i.toNat := by
  have hl := (List.getElem?_eq_some_iff.mp h).1
  unfold seqIndex?
  have e : vs.toArray.size = vs.length := by simp
  rw [e, if_neg (show ¬ i < 0 by omega)]
  show (if (decide (0 ≤ i) && decide (i < (vs.length : Int))) = true then some i.toNat else none) = _
  rw [decide_eq_true h0, decide_eq_true (show i < (vs.length : Int) by omega)]
  rfl
/-- lambda x: y[x], called with an int -/
theorem lam_ixT {f l c' ck : Addr} {q x y : Str} {params : Arguments} {p1 p2 p3 : Pos} {scope : Scope} {cl : List (Str × Addr)} {pm ctv u : Value} {vs : List Value} {i : Int} {t : Tok} {Q : Value → Shared → Prop}
    (S : LSc scope x y) (hd : A.depth < recursionLimit) (hf : s.heap.get? f = some (PySem.W.kla_obj "<lambda>" q params (.Subscript (.Name y p1) (.Name x p2) p3) scope cl pm c' ctv))
    (hbind : ∀ v : Value, bindArgs (PySem.W.kla_fn "<lambda>" q params (.Subscript (.Name y p1) (.Name x p2) p3) scope cl pm (.ref c') ctv) ⟨[v], []⟩ = pure [(x, v)])
    (hcode : ∃ (oc : Obj) (us : Array Value) (tk : Tok), s.heap.get? c' = some oc ∧ oc.data = .fields us ∧ us[1]? = some (.str q tk)) (hlim : s.heap.NoLimit)
    (hck : cl.lookup y = some ck) (hcell : s.heap.IsCell ck (some (.ref l))) (hl : IsTup s.heap l vs.toArray) (h0 : 0 ≤ i) (h1 : i < 2 ^ 63) (hi : vs[i.toNat]? = some u)
    (hdx : (x == ("__debug__" : Str)) = false) (hdy : (y == ("__debug__" : Str)) = false) (hcy : (y == ("__classdict__" : Str)) = false)
    (h : ∀ h' tk, s.toks ≤ tk → (∀ b o, s.heap.get? b = some o → h'.get? b = some o) → Q u { s with heap := h', toks := tk }) : wpAny (model prog w) A (call (.ref f) [.int i t]) Q E s := by
  obtain ⟨oc, us, tq, hoc, hdc, hvc⟩ := hcode
  refine wpAny_call (PySem.W.kla_callFunE hd hf rfl S.co S.gen rfl ⟨c', oc, us, tq, rfl, hoc, hdc, hvc⟩ ?_)
  rw [hbind]
  refine wpAny_pure (wpAny_newFunctionEnv S.nocell (fun z hz => by rw [List.mem_singleton.mp hz]; exact S.px) (fun h₁ hns hsb => ⟨hlim.fresh _ hsb, ?_⟩) S.kind)
  have kp : ∀ b o, s.heap.get? b = some o → h₁.get? b = some o := fun b o e => hsb.extBut b o (Nat.ne_of_lt (Heap.lt_size e)) (Heap.get?_push_of_some _ e)
  refine PySem.W.kla_codeExpr ?_
  refine wpAny_Subscript_Name tuple_getitem_lookup ?_
  refine wpAny_Name (wpAny_loadName_free S.kind S.fy hck (hcell.keeps kp) ?_ hcy) hdy
  refine wpAny_Name (wpAny_loadName_local S.kind S.px hns (v := .int i t) ?_ ?_) hdx
  · simp [List.lookup]
  · have hl' : IsTup h₁ l vs.toArray := hl.keeps kp
    refine ⟨hl'.typeIs, getItem_tuple hl' (by omega) h1 (j := i.toNat) (seqT h0 hi) (by simpa using hi) ?_⟩
    exact h h₁ _ (by show s.toks ≤ s.toks + _; omega) kp
/-- what a lambda x: y[x] is, and what it reads -/
structure LamAtT (h : Heap) (f : Addr) (x y : Str) (q : Str) (params : Arguments) (p1 p2 p3 : Pos) (scope : Scope) (cl : List (Str × Addr)) (pm ctv : Value) (c' ck l : Addr) (us : List Value) : Prop where
  fn : h.get? f = some (PySem.W.kla_obj "<lambda>" q params (.Subscript (.Name y p1) (.Name x p2) p3) scope cl pm c' ctv)
  code : ∃ (oc : Obj) (us : Array Value) (tk : Tok), h.get? c' = some oc ∧ oc.data = .fields us ∧ us[1]? = some (.str q tk)
  lim : h.NoLimit
  hck : cl.lookup y = some ck
  cell : h.IsCell ck (some (.ref l))
  lst : IsTup h l us.toArray
theorem LamAtT.keeps {h h' : Heap} {f : Addr} {x y : Str} {q : Str} {params : Arguments} {p1 p2 p3 : Pos} {scope : Scope} {cl : List (Str × Addr)} {pm ctv : Value} {c' ck l : Addr} {us : List Value}
    (L : LamAtT h f x y q params p1 p2 p3 scope cl pm ctv c' ck l us) (k : ∀ b o, h.get? b = some o → h'.get? b = some o) : LamAtT h' f x y q params p1 p2 p3 scope cl pm ctv c' ck l us :=
  ⟨k _ _ L.fn, let ⟨oc, us, tk, a, b, c⟩ := L.code; ⟨oc, us, tk, k _ _ a, b, c⟩, L.lim.keeps k, L.hck, L.cell.keeps k, L.lst.keeps k⟩
theorem min_lamT {f a l c' ck : Addr} {q x y : Str} {params : Arguments} {p1 p2 p3 : Pos} {scope : Scope} {cl : List (Str × Addr)} {pm ctv : Value} {cs us : List Value} {ns : Nat → Int} {kf : Nat → Int} {Q : Value → Shared → Prop}
    (hh : A.handled = none) (S : LSc scope x y) (hd : A.depth < recursionLimit) (L : LamAtT s.heap f x y q params p1 p2 p3 scope cl pm ctv c' ck l us)
    (hbind : ∀ v : Value, bindArgs (PySem.W.kla_fn "<lambda>" q params (.Subscript (.Name y p1) (.Name x p2) p3) scope cl pm (.ref c') ctv) ⟨[v], []⟩ = pure [(x, v)])
    (hdx : (x == ("__debug__" : Str)) = false) (hdy : (y == ("__debug__" : Str)) = false) (hcy : (y == ("__classdict__" : Str)) = false)
    (ht : s.heap.IsTuple a cs.toArray) (hc : ∀ i, i < cs.length → ∃ t, cs[i]? = some (.int (ns i) t)) (hne : 0 < cs.length)
    (hk : ∀ i, i < cs.length → 0 ≤ ns i ∧ ns i < 2 ^ 63 ∧ ∃ t, us[(ns i).toNat]? = some (.int (kf i) t))
    (h : ∀ v h' tk, cs[argBest (fun i j => decide (kf i < kf j)) (cs.length - 1)]? = some v → (∀ b o, s.heap.get? b = some o → h'.get? b = some o) → Q v { s with heap := h', toks := tk }) :
    wpAny (model prog w) A (call (.builtin "min") [.ref a] [(Str.ofString "key", .ref f)]) Q E s := by
  have hd1 : A.in1.depth < recursionLimit := hd
  refine call_min_walkK (PySem.W.iter_tupleW (A := A.in1) hh ht fun s₂ e2 W st hfp hfr kp2 => ?_)
  have sz2 : s.heap.objs.size < s₂.heap.objs.size := hfp _ List.mem_cons_self
  have old : ∀ {s' : Shared}, Moved [s₂.heap.objs.size, s.heap.objs.size] (fun a b => b = a) s₂ s' → ∀ b o, s.heap.get? b = some o → s'.heap.get? b = some o := fun {s'} m b o e => by
    have lt := Heap.lt_size e
    refine m.heap b o (fun hm => ?_) (kp2 b o e)
    rcases List.mem_cons.mp hm with z | hm
    · rw [z] at lt
      exact Nat.lt_irrefl _ (Nat.lt_trans lt sz2)
    · rw [List.mem_singleton.mp hm] at lt
      exact Nat.lt_irrefl _ lt
  have szc : cs.toArray.size = cs.length := by simp
  refine ⟨s.heap.objs.size, [s.heap.objs.size, a], [s.heap.objs.size], (fun a b => b = a), cs.toArray.size, _, _, fun s' => Moved [s₂.heap.objs.size, s.heap.objs.size] (fun a b => b = a) s₂ s', fun i k _ => ∃ t, k = .int (kf i) t, fun i j => decide (kf i < kf j), rfl, W, st, hfp, by rw [szc]; exact hne, ⟨?_, ?_, ?_, ?_⟩, Moved.refl fun _ => rfl, ?_⟩
  · exact fun s1 s' J m => J.trans (fun _ _ _ h1 h2 => h2.trans h1) m
  · exact fun i k s1 s' v _ => v
  · intro i v s1 o Q' E' hi hP J stI hS cont
    rw [szc] at hi
    obtain ⟨t, ec⟩ := hc i hi
    have ev : v = .int (ns i) t := by
      have hP' : cs[i]? = some v := by simpa using hP
      rw [ec] at hP'
      exact (Option.some.inj hP').symm
    subst ev
    obtain ⟨h0, h1, tk, eu⟩ := hk i hi
    have L1 := L.keeps (old J)
    refine lam_ixT S hd1 L1.fn hbind L1.code L1.lim L1.hck L1.cell L1.lst h0 h1 eu hdx hdy hcy fun h' tk' hle kp => ?_
    exact cont _ _ (J.then_heap hle fun b o _ e => kp b o e) (W.frame _ s1 h' tk' stI hle fun b _ o e => kp b o e) (kp _ _ hS) ⟨_, rfl⟩ fun j k' z => z
  · intro i j ki kj s1 Q' E' J vi vj q
    exact CmpOf.ints_lt (prog := prog) (w := w) (A := A.in1) (P := fun i v => ∃ t, v = .int (kf i) t) kf (fun i v h => h) i j ki kj s1 Q' E' vi vj q
  · intro v s' hP J
    rw [szc] at hP
    have hP' : cs[argBest (fun i j => decide (kf i < kf j)) (cs.length - 1)]? = some v := by simpa using hP
    have e : s' = { s with heap := s'.heap, toks := s'.toks } := by
      obtain ⟨hp, g, d, tk, os⟩ := s'
      subst e2
      have h1 : g = s.gens := J.gens
      have h2 : d = s.drawn := J.drawn
      have h3 : os = s.os := J.os
      subst h1 h2 h3
      rfl
    rw [e]
    exact h v s'.heap s'.toks hP' (old J)
end
section
variable {X : Cx}
def tMinLamT (K : PySem.W.Frag) (T : List (Addr × Str)) (j : Nat) (te : TE) : TE := fun σ H Q => te σ H fun v H1 => ∃ (a l : Addr) (ns ks : List Int), v = .ref a ∧ SqT K H1 a (ns.map V.int) ∧ σ[j]? = some (some (.ref l)) ∧ SqT K H1 l (ks.map V.int) ∧ 0 < ns.length ∧ (∀ n ∈ ns, 0 ≤ n ∧ n < ks.length) ∧
  Tabs T H1 ∧ ∀ (m : Int) (H2 : Hp), ExtN H1 H2 → Tabs T H2 → LeastAt ks ns m → Q (.int m) H2
/-- min(e, key=lambda x: y[x]), y a name of the def that it shares with the lambda -/
theorem pe_minlamT {T : List (Addr × Str)} {c P : Addr} {p p1 p2 p3 lpos kpos pos : Pos} {e : Expr} {te : TE} {x y : Str} {j : Nat} {params : Arguments} {scope : Scope}
    (hg : Gl X "min") (hm : X.mg "min" = none) (he : PE X e te) (hd : X.A.depth < recursionLimit) (hh : X.A.handled = none) (TB : TabB X.base X.mg c P) (hcode : X.env.code = .ref c) (hmT : (P, X.env.qual ++ "<lambda>") ∈ T)
    (hu : ∀ q ∈ T, q.1 = P → q.2 = X.env.qual ++ "<lambda>") (S : LSc scope x y) (hfy : X.env.scope.names.lookup y = some .cell) (hfr : ∀ z ∈ scope.names, z.2 = .free → z.1 = y) (hN : X.N[j]? = some y) (hdef : defaultsOf params X.env = ([], []))
    (hbind : ∀ (q : Str) (cl : List (Str × Addr)) (pm cv ctv v : Value), bindArgs (PySem.W.kla_fn "<lambda>" q params (.Subscript (.Name y p1) (.Name x p2) p3) scope cl pm cv ctv) ⟨[v], []⟩ = pure [(x, v)])
    (hs : starEach [e] X.env = (false, eval e X.env) :: starEach [] X.env := by rfl)
    (hdx : (x == ("__debug__" : Str)) = false := by decide) (hdy : (y == ("__debug__" : Str)) = false := by decide) (hcy : (y == ("__classdict__" : Str)) = false := by decide) :
    PE X (.Call (.Name "min" p) [e] [⟨some "key", .Lambda params (.Subscript (.Name y p1) (.Name x p2) p3) scope lpos, kpos⟩] pos) (tMinLamT X.K T j te) := by
  refine ⟨fun pins s σ H Q I h => ?_⟩
  have hfree : ∀ z ∈ scope.names, z.2 = .free → ∃ c, X.env.cells.lookup z.1 = some c := fun z hz e => I.ok.has _ (.inl (by rw [hfr z hz e]; exact hfy))
  refine wpAny_Call_Name_kw (ld_blt I hg hm (u := .builtin "min") (by decide +kernel) ?_)
  refine PyProof.Rows.callWith_kw ?_ (by rw [hs]; rfl) (by rw [hs]; rfl) (by rfl) (by rfl)
  rw [hs]
  show wpAny _ _ (spliced ((false, eval e X.env) :: backTo pos (starEach [] X.env))) _ _ s
  refine Calls.spliced_cons (thn (he.run pins s σ H _ I h) fun u s1 ⟨v, H1, I1, r1, a, l, ns, ks, ev, ht, hσ, hl, hne, hin, hT, q⟩ => Calls.spliced_nil ?_)
  subst ev
  obtain rfl : u = Value.ref a := r1
  show wpAny _ _ (evalAll ((do let v ← eval (.Lambda params (.Subscript (.Name y p1) (.Name x p2) p3) scope lpos) X.env; standAt pos; pure v) :: [])) _ _ s1
  refine wpAny_evalAll_cons (wpAny_bind (lam_make2 I1 TB hcode hmT hu hT hdef hfree fun f c' pm ctv H2 s2 I2 eN T2 hf hfn hff hco => wpAny_bind (wpAny_standAt (wpAny_pure (wpAny_evalAll_nil ?_)))))
  show wpAny _ _ (call (.builtin "min") [.ref a] [(Str.ofString "key", .ref f)]) _ _ s2
  obtain ⟨cs, rc, tc, _⟩ := I2.tuple (eN.sqT ht)
  obtain ⟨us, ru, pl, hz2⟩ := I2.tuple (eN.sqT hl)
  obtain ⟨m, _, look⟩ := I2.loc
  obtain ⟨u0, r0, lk⟩ := look j y _ hN hσ (.inr (.inl hfy))
  obtain rfl : u0 = Value.ref l := r0
  have cellAt : ∃ ck, X.env.cells.lookup y = some ck ∧ s2.heap.IsCell ck (some (.ref l)) := by
    rcases lk with ⟨k, _⟩ | ⟨_, ck, e1, e2⟩
    · rw [show X.env.kindOf y = some .cell from hfy] at k
      cases k
    · exact ⟨ck, e1, e2⟩
  obtain ⟨ck, eck, hcell⟩ := cellAt
  obtain ⟨⟨oc, vs, tk, o1, o2, o3⟩, _, _⟩ := I2.hok c' _ hco
  have lc : cs.length = ns.length := by rw [← rc.length, List.length_map]
  have lu : us.length = ks.length := by rw [← ru.length, List.length_map]
  have nsAt : ∀ i, i < ns.length → ∃ t, cs[i]? = some (.int (ns.getD i 0) t) := fun i hi => by
    obtain ⟨z, ez, rz⟩ := rc.get (i := i) (x := V.int (ns.getD i 0)) (by rw [List.getElem?_map, List.getD_eq_getElem?_getD, List.getElem?_eq_getElem hi]; rfl)
    obtain ⟨t, rfl⟩ := rz
    exact ⟨t, ez⟩
  refine min_lamT (ns := fun i => ns.getD i 0) (kf := fun i => ks.getD (ns.getD i 0).toNat 0) hh S hd ⟨hf, ⟨oc, vs, tk, o1, o2, o3⟩, I2.nolimit, NdefX.clo_has hfree (PySem.mem_of_lookup S.fy) eck, hcell, pl⟩ (fun v => hbind _ _ _ _ _ v) hdx hdy hcy tc (fun i hi => nsAt i (by omega)) (by omega)
    (fun i hi => ?_) fun v h' tk2 hv kp => ?_
  · have hi' : i < ns.length := by omega
    have hmem : ns.getD i 0 ∈ ns := by rw [List.getD_eq_getElem?_getD, List.getElem?_eq_getElem hi']; exact List.getElem_mem hi'
    obtain ⟨b0, b1⟩ := hin _ hmem
    have hs63 := line63
    rw [List.length_map] at hz2
    have hk' : (ns.getD i 0).toNat < ks.length := by omega
    obtain ⟨z, ez, rz⟩ := ru.get (i := (ns.getD i 0).toNat) (x := V.int (ks.getD (ns.getD i 0).toNat 0)) (by rw [List.getElem?_map, List.getD_eq_getElem?_getD (l := ks), List.getElem?_eq_getElem hk']; rfl)
    obtain ⟨t, rfl⟩ := rz
    exact ⟨b0, by omega, t, ez⟩
  · obtain ⟨n, en⟩ : ∃ n, ns.length = n + 1 := ⟨ns.length - 1, by omega⟩
    have fl := best_is (fun i => ks.getD (ns.getD i 0).toNat 0) n
    rw [← en] at fl
    rw [lc, show ns.length - 1 = n by omega] at hv
    obtain ⟨t, et⟩ := nsAt _ fl.1
    rw [et] at hv
    cases hv
    exact ⟨.int _, H2, I2.kept kp, ⟨t, rfl⟩, q _ H2 eN T2 ⟨_, fl, rfl⟩⟩
end
end Cl
namespace L2
open PySem PySem.Spec PyProof.Rows L2
section
variable {prog : Program} {w : World} {A : Around} {E : Value → Shared → Prop} {s : Shared}
theorem pick_rev (items : Array Value) : (List.filterMap (fun (k : Nat) => items[((items.size : Int) - 1 + ↑k * -1).toNat]?) (List.range items.size)) = items.toList.reverse := by
  obtain ⟨l⟩ := items
  simp only [List.size_toArray, List.getElem?_toArray]
  have h : ∀ m, m ≤ l.length → List.filterMap (fun (k : Nat) => l[((l.length : Int) - 1 + ↑k * -1).toNat]?) (List.range m) = (l.drop (l.length - m)).reverse := by
    intro m
    induction m with
    | zero => intro _; simp
    | succ m ih =>
      intro hm
      rw [List.range_succ, List.filterMap_append, ih (by omega)]
      have hi : l.length - (m + 1) < l.length := by omega
      have e1 : List.filterMap (fun (k : Nat) => l[((l.length : Int) - 1 + ↑k * -1).toNat]?) [m] = [l[l.length - (m + 1)]] := by
        rw [List.filterMap_cons]
        rw [show (((l.length : Int) - 1 + ((m : Nat) : Int) * -1).toNat) = l.length - (m + 1) by omega, List.getElem?_eq_getElem hi]
        rfl
      have e2 : l.drop (l.length - (m + 1)) = l[l.length - (m + 1)] :: l.drop (l.length - m) := by
        rw [List.drop_eq_getElem_cons hi, show l.length - (m + 1) + 1 = l.length - m by omega]
      rw [e1, e2, List.reverse_cons]
  rw [h _ (Nat.le_refl _), Nat.sub_self, List.drop_zero]
theorem sliceApplied_rev {sl : Addr} {t : Tok} {n : Nat} {Q : Int × Int × Nat → Shared → Prop} (h : s.heap.IsSliceOf sl .none .none (.int (-1) t)) (q : Q ((n : Int) - 1, -1, n) s) :
    wpAny (model prog w) A (Builtin.Slice.sliceApplied (.ref sl) (pure ↑n)) Q E s := by
  obtain ⟨o, h1, h2, h3⟩ := h
  unfold Builtin.Slice.sliceApplied
  refine wpAny_bind ?_
  unfold Builtin.Slice.sliceFields
  refine wpAny_bind (wpAny_field h1 h3 (by rfl) ?_)
  refine wpAny_bind (wpAny_field h1 h3 (by rfl) ?_)
  refine wpAny_bind (wpAny_field h1 h3 (by rfl) ?_)
  refine wpAny_pure ?_
  refine wpAny_bind (slicePart_int ?_)
  show wpAny _ _ (if ((-1 : Int) == 0) = true then _ else _) _ _ _
  rw [if_neg (by decide)]
  refine wpAny_bind (slicePart_none ?_)
  refine wpAny_bind (slicePart_none ?_)
  refine wpAny_bind (wpAny_pure ?_)
  have e : Builtin.Slice.sliceAdjust none none (-1) (n : Int) = ((n : Int) - 1, -1) := rfl
  show wpAny _ _ (match Builtin.Slice.sliceAdjust none none (-1) (n : Int) with | (lo, hi) => pure (lo, -1, Builtin.Slice.slicePlaces lo hi (-1))) _ _ _
  rw [e]
  refine wpAny_pure ?_
  have e2 : Builtin.Slice.slicePlaces ((n : Int) - 1) (-1) (-1) = n := by
    unfold Builtin.Slice.slicePlaces
    rw [if_neg (by decide)]
    by_cases h0 : n = 0
    · subst h0
      rfl
    · rw [if_pos (by omega)]
      show (((n : Int) - 1 - -1 - 1) / 1 + 1).toNat = n
      omega
  rw [e2]
  exact q
theorem getItem_tuple_rev {t sl : Addr} {items : Array Value} {tk : Tok} {Q : Value → Shared → Prop} (ht : IsTup s.heap t items) (hs : s.heap.IsSliceOf sl .none .none (.int (-1) tk)) (hz : items.size ≤ sizeLine)
    (q : Q (.ref s.heap.objs.size) { s with heap := s.heap.push { cls := .type "tuple", data := .seq items.toList.reverse.toArray } }) : wpAny (model prog w) A (getItem (.ref t) (.ref sl)) Q E s := by
  unfold getItem
  refine wpAny_holding ?_
  refine wpAny_bind (wpAny_sequenceKey ht.typeIs (by decide) ?_)
  refine wpAny_bind (wpAny_callSpecial?_slot ht.typeIs slot_tuple_getitem (wpAny_call_entry slot_tuple_getitem ht.typeIs entry_tuple_getitem ?_ (args_tuple_getitem _ _)))
  unfold Builtin.«tuple.__getitem__»
  show wpAny _ _ (do
      let xs ← Builtin.Tuple.tupleItemsOf (.ref t)
      _) _ _ _
  refine wpAny_bind (tupleItemsOf_ ht ?_)
  obtain ⟨o, h1, h2, h3⟩ := id hs
  refine wpAny_bind (wpAny_typeOf (T := "slice") ⟨_, h1, h2⟩ ?_)
  rw [if_pos (by decide)]
  refine wpAny_bind (sliceApplied_rev hs ?_)
  show wpAny _ _ (if (((items.size : Int) - 1) == 0 && ((-1 : Int) == 1) && items.size == items.size) = true then _ else _) _ _ _
  rw [if_neg (by simp)]
  refine wpAny_bind ?_
  unfold Builtin.Tuple.tupleExact
  refine wpAny_newObj_type ?_ ?_
  · rw [pick_rev]
    refine wpAny_pure ⟨_, rfl, ?_⟩
    exact wpAny_pure q
  · show sizeOk (.seq _)
    rw [pick_rev]
    show (items.toList.reverse.toArray).size ≤ sizeLine
    simpa using hz
end
section
variable {X : Cx}
/-- t[::-1], t a tuple -/
def tRevT (K : PySem.W.Frag) (te ts : TE) : TE := fun σ H Q => te σ H fun x H1 => ts σ H1 fun y H2 => y = .int (-1) ∧ ∃ a xs, x = .ref a ∧ SqT K H2 a xs ∧ ∀ (p : Addr) (H' : Hp), Same H2 H' → H' p = some (.tup xs.reverse) → Q (.ref p) H'
theorem pe_revT {e st : Expr} {p3 pos : Pos} {te ts : TE} (he : PE X e te) (hs : PE X st ts) : PE X (.Subscript e (.Slice none none (some st) p3) pos) (tRevT X.K te ts) := by
  refine ⟨fun pins s σ H Q I h => ?_⟩
  refine Subscript_ (thn (he.run pins s σ H _ I h) fun v s1 ⟨x, H1, I1, r1, h1⟩ => ?_)
  refine wpAny_Slice ?_
  rw [evalPart_none]
  refine wpAny_pure (wpAny_pure ?_)
  show wpAny _ _ (eval st X.env) _ _ s1
  refine thn (hs.run pins s1 σ H1 _ I1 h1) fun u s2 ⟨y, H2, I2, r2, ey, a, xs, ex, ht, q⟩ => ?_
  subst ey
  subst ex
  obtain ⟨tk, rfl⟩ := r2
  obtain rfl : v = Value.ref a := r1
  have I3 := I2.kept (t' := s2.toks) (h' := s2.heap.push { cls := .type "slice", data := .fields #[.none, .none, .int (-1) tk] }) fun b o e => Heap.get?_push_of_some _ e
  obtain ⟨its, rv, tt, hz⟩ := I3.tuple ht
  have hl := rv.length
  refine tail_any (T := "tuple") tt.typeIs rfl ?_ rfl
  refine getItem_tuple_rev tt (Heap.IsSliceOf.new _ _ _ _) (by simp only [List.size_toArray]; omega) ?_
  generalize s2.heap.push { cls := .type "slice", data := .fields #[.none, .none, .int (-1) tk] } = h3 at I3 tt
  have hn := I3.hok.fresh (Nat.le_refl h3.objs.size)
  exact ⟨.ref h3.objs.size, _, I3.laid (t' := s2.toks) (fun b o e => Heap.get?_push_of_some _ e) (Nat.le_refl _) (show ObjOk X.prog X.w _ _ _ (.tup xs.reverse) from ⟨by rw [List.length_reverse]; exact hz, its.reverse, rv.reverse, IsTup.new _ _⟩), rfl, q _ _ (fun b o e => by rw [upd_ne (ne_of_none e hn)]; exact e) upd_same⟩
end
end L2
namespace Tw
open PySem PySem.Spec PyProof.Rows L2 PySem.W
section
variable {X : Cx} {CX : CXT} {k : Nat} {f C D : Addr} {fd : FuncData} {ps : List Str} {sp : Sp} {E : XK}
theorem op_notIn_own (hd : Dn X.K C "__contains__" f) (F : FnOk X.prog X.w X.K X.mg X.base CX k f fd ps sp) (hr : Room k X.A) (hb : Binds X.K fd ps []) (hx : Passes CX X E) : OpR X (compareOp .NotIn) (rIn C sp E true) := by
  intro pins s σ H x y v u Q I rx ry ⟨a, dx, fs, ey, ha, q⟩
  subst ey
  obtain rfl : u = Value.ref a := ry
  obtain ⟨mA, O, rr, _, _, _⟩ := ins_get I.hok ha
  obtain ⟨od, J, hl⟩ := O.look
  obtain ⟨m0, hF⟩ := I.fr
  refine PySem.W.notIn_K hF I.ok.mod.kin J hd.at_ hd.fn (thn (run_sub F ⟨hr, rfl⟩ hb hx I (.cons (relR a) (.cons rx .nil)) q) fun r s' ⟨z, H', I', rz, b, ez, q'⟩ => ?_)
  subst ez
  obtain rfl : r = Value.bool b := rz
  exact wpAny_truthy_bool ⟨_, _, I', relB (!b), q'⟩
end
end Tw

set_option Elab.async false
set_option linter.all false
set_option maxRecDepth 100000
set_option maxHeartbeats 4000000
/-! min(xs), xs a list of tuples of ints -/
namespace L2
open PySem PySem.Spec PyProof.Rows PySem.W
theorem tupE_lt (p q : List Int) : dataLt (tupE p) (tupE q) = decide (p < q) := by
  show dataLt (.tuple (p.map .int)) (.tuple (q.map .int)) = _
  rw [dataLt_tuple]
  show rowLt (p.map .int) (q.map .int) = _
  rw [dataLt_ints]
theorem minD_tups : ∀ (r : List (List Int)) (b : List Int), ∃ m, minD (tupE b) (r.map tupE) = tupE m ∧ m ∈ b :: r ∧ ∀ z ∈ b :: r, m ≤ z
  | [], b => ⟨b, rfl, List.mem_cons_self, fun z hz => by rw [List.mem_singleton.mp hz]; exact List.le_refl _⟩
  | c :: r, b => by
    have e : minD (tupE b) ((c :: r).map tupE) = minD (if decide (c < b) = true then tupE c else tupE b) (r.map tupE) := by
      show List.foldl _ _ _ = List.foldl _ _ _
      rw [List.map_cons, List.foldl_cons, tupE_lt]
    rw [e]
    by_cases h : c < b
    · rw [if_pos (decide_eq_true h)]
      obtain ⟨m, e1, e2, e3⟩ := minD_tups r c
      refine ⟨m, e1, List.mem_cons_of_mem _ e2, fun z hz => ?_⟩
      rcases List.mem_cons.mp hz with rfl | hz
      · exact List.le_trans (e3 c List.mem_cons_self) (List.le_of_lt h)
      · exact e3 z hz
    · rw [if_neg (fun z => h (of_decide_eq_true z))]
      obtain ⟨m, e1, e2, e3⟩ := minD_tups r b
      refine ⟨m, e1, ?_, fun z hz => ?_⟩
      · rcases List.mem_cons.mp e2 with rfl | e2
        · exact List.mem_cons_self
        · exact List.mem_cons_of_mem _ (List.mem_cons_of_mem _ e2)
      · rcases List.mem_cons.mp hz with rfl | hz
        · exact e3 _ List.mem_cons_self
        · rcases List.mem_cons.mp hz with rfl | hz
          · exact List.le_trans (e3 b List.mem_cons_self) (List.not_lt.mp h)
          · exact e3 z (List.mem_cons_of_mem _ hz)
theorem tupE_depth (b : List Int) : (tupE b).depth ≤ 1 := by
  simp [PyData.depth, depth_ints]
theorem tupE_depths : ∀ bs : List (List Int), PyData.depthAll (bs.map tupE) ≤ 1
  | [] => by simp [PyData.depthAll]
  | b :: bs => by
    have h1 := tupE_depth b
    have h2 := tupE_depths bs
    rw [List.map_cons, PyData.depthAll]
    omega
section
variable {X : Cx} {pins : List (Addr × Obj)} {σ : St} {H : Hp} {s : Shared}
theorem readsAll_tups (I : Inv X pins σ H s) : ∀ {us : List Value} {bs : List (List Int)}, EachIs (TupV X.K H) us bs → ∃ as, ReadsAll s.heap us (bs.map tupE) as
  | _, _, .nil => ⟨_, .nil⟩
  | _, _, .cons h p => by
    obtain ⟨as, r⟩ := tupV_reads I h
    obtain ⟨bs, rs⟩ := readsAll_tups I p
    exact ⟨_, .cons r rs⟩
theorem ints_lay : ∀ ns : List Int, PyData.canLayAll0 (ns.map .int) = true
  | [] => rfl
  | a :: ns => by
    rw [List.map_cons]
    simp [PyData.canLayAll0, PyData.canLay0, ints_lay ns]
theorem pdi_inj : ∀ ms ns : List Int, ms.map PyData.int = ns.map PyData.int → ms = ns
  | [], [], _ => rfl
  | [], b :: ns, h => by simp at h
  | a :: ms, [], h => by simp at h
  | a :: ms, b :: ns, h => by
    rw [List.map_cons, List.map_cons] at h
    injection h with h1 h2
    injection h1 with h1
    rw [h1, pdi_inj ms ns h2]
theorem reads_tup_one {h : Heap} {t : Addr} {ms ns : List Int} {as bs : List Addr} (h1 : Reads h (.ref t) (tupE ms) as) (h2 : Reads h (.ref t) (tupE ns) bs) : ms = ns := by
  have e := SeqAt.ReadsAll.unique [tupE ms] [tupE ns] [.ref t] _ _ (by simp [PyData.canLayAll0, PyData.canLay0, ints_lay]) (.cons h1 .nil) (.cons h2 .nil)
  have e2 := (List.cons.inj e).1
  unfold tupE at e2
  injection e2 with e2
  exact pdi_inj ms ns e2
/-- min(xs) -/
def rMinTA (K : PySem.W.Frag) : List V → Hp → VK → Prop := fun vs H Q => ∃ (a : Addr) (xs : List V) (bs : List (List Int)), vs = [V.ref a] ∧ SqL K H a xs ∧ Paired (TupI K H) xs bs ∧ bs ≠ [] ∧
  ∀ (t : Addr) (m : List Int), SqT K H t (m.map V.int) → m ∈ bs → (∀ z ∈ bs, m ≤ z) → Q (.ref t) H
theorem each_at {R : Value → List Int → Prop} : ∀ {us : List Value} {bs : List (List Int)}, EachIs R us bs → ∀ {i : Nat} {v : Value}, us[i]? = some v → ∃ b, R v b
  | _, _, .nil, i, v, h => by simp at h
  | _, _, .cons h p, 0, v, e => by
    cases e
    exact ⟨_, h⟩
  | _, _, .cons h p, i + 1, v, e => each_at p e
theorem cr_minTA (hh : X.A.handled = none) (hu : X.A.units + 65 < cLine) : CallR X (.builtin "min") (rMinTA X.K) := by
  intro pins s σ H vs us Q I r h
  obtain ⟨a, xs, bs, rfl, hs, hp, hne, q⟩ := h
  obtain ⟨its, rv, hl, hz⟩ := I.list hs
  rw [Vals.ref1 r]
  have e0 : EachIs (TupV X.K H) its bs := tupV_of hp rv
  match bs, hne, e0, q with
  | b :: r, _, e0, q =>
    obtain ⟨as, ra⟩ := readsAll_tups I e0
    obtain ⟨m, em, hm, hle⟩ := minD_tups r b
    refine min_list_data (x := tupE b) (xs := r.map tupE) hh hl.isList (by simpa using ra) ⟨?_, ?_⟩ ?_ fun i v h' tk cs hv hr kp => ?_
    · intro x hx y hy
      rw [← List.map_cons] at hx hy
      obtain ⟨b1, _, rfl⟩ := List.mem_map.mp hx
      obtain ⟨b2, _, rfl⟩ := List.mem_map.mp hy
      simp [alike, alike_ints]
    · intro x hx
      rw [← List.map_cons] at hx
      obtain ⟨b1, _, rfl⟩ := List.mem_map.mp hx
      intro z
      cases z
    · have := tupE_depths (b :: r)
      rw [List.map_cons] at this
      omega
    · have hv' : its[i]? = some v := by simpa using hv
      obtain ⟨ns, t, rfl, ht⟩ := each_at e0 hv'
      rw [em] at hr
      have e1 : ns = m := by
        obtain ⟨bs1, r1⟩ := tupV_reads I ⟨t, rfl, ht⟩
        exact reads_tup_one (reads_keeps kp r1) hr
      subst e1
      exact ⟨.ref t, H, I.kept kp, rfl, q t ns ht hm hle⟩
end
end L2

set_option Elab.async false
set_option linter.all false
set_option maxRecDepth 100000
set_option maxHeartbeats 4000000
/-! t * n, t a tuple, n from 0 on -/
namespace PySem
open PySem PySem.W PySem.AutoSeq1
theorem tuple_mul1 (l : Addr) (items : Array Value) (n : Nat) (dd : Option Addr) (sl : Array (Option Value)) (u : Tok) :
    Meets (Builtin.«tuple.__mul__» ⟨[.ref l, .int 1 u], []⟩) (fun _ R s => s.heap.get? l = some { cls := .type "tuple", dict := dd, data := .seq items n, slots := sl } ∧ R (.ok (.ret (.ref l))) s) :=
  .of_wp fun prog w A R s h => by
    obtain ⟨hp, g, d, tk, os⟩ := s
    obtain ⟨hl, h⟩ := h
    have f1 := idx_int
    have f2 := sub_tuple_tuple
    have h1 : (decide ((1 : Int) < -2 ^ 63) || decide ((1 : Int) ≥ 2 ^ 63)) = false := by decide
    have h2 : (items.isEmpty || (1 : Int) == 1) = true := by simp
    wp_walk using wpAny_loadPart' hl
    exact ⟨_, rfl, h⟩
theorem tuple_mul0 (l : Addr) (items : Array Value) (n : Nat) (dd : Option Addr) (sl : Array (Option Value)) (u : Tok) (hne : items.isEmpty = false) :
    Meets (Builtin.«tuple.__mul__» ⟨[.ref l, .int 0 u], []⟩) (fun _ R s => s.heap.get? l = some { cls := .type "tuple", dict := dd, data := .seq items n, slots := sl } ∧ R (.ok (.ret (.ref s.heap.objs.size))) { s with heap := s.heap.push { cls := .type "tuple", data := .seq #[] 0 } }) :=
  .of_wp fun prog w A R s h => by
    obtain ⟨hp, g, d, tk, os⟩ := s
    obtain ⟨hl, h⟩ := h
    have f1 := idx_int
    have f2 := sub_tuple_tuple
    have h1 : (decide ((0 : Int) < -2 ^ 63) || decide ((0 : Int) ≥ 2 ^ 63)) = false := by decide
    have h2 : (items.isEmpty || (0 : Int) == 1) = false := by simp [hne]
    have h3 : (decide ((0 : Int) ≤ 0) || items.isEmpty) = true := by simp
    wp_walk using wpAny_loadPart' hl
    exact ⟨_, rfl, h⟩
end PySem
namespace L2
open PySem PySem.Spec PyProof.Rows PySem.W
def rRepU : R2 := fun x y H Q => ∃ (l : Addr) (k : Nat) (xs : List V), x = .ref l ∧ y = .int k ∧ H l = some (.tup xs) ∧ xs ≠ [] ∧ k ≤ 1000 ∧ xs.length ≤ 1000 ∧ ∀ t H', Same H H' → H' t = some (.tup (List.replicate k xs).flatten) → Q (.ref t) H'
theorem op_repU {X : Cx} : OpR X (binaryOp .Mult) rRepU := by
  intro pins s σ H x y v u Q I rx ry h
  obtain ⟨l, k, xs, rfl, rfl, hx, hne, hk, hl, q⟩ := h
  by_cases h2 : 2 ≤ k
  · exact op_repT pins s σ H _ _ v u Q I rx ry ⟨l, k, xs, rfl, rfl, SqT.of hx, hne, by omega, by omega, hl, fun p np => q p _ (fun b o e => by rw [upd_ne (ne_of_none e np)]; exact e) (by rw [upd_same, Int.toNat_natCast])⟩
  · cases rx
    obtain ⟨t, rfl⟩ := ry
    obtain ⟨its, rv, tc, hz⟩ := I.tuple (SqT.of hx : SqT X.K H l xs)
    obtain ⟨ob, eb, hc, n2, hd⟩ := id tc
    obtain ⟨cls, dc, data, sl⟩ := ob
    dsimp only at hc hd
    subst hc hd
    have hie : its.toArray.isEmpty = false := by
      have := rv.length
      cases its with
      | nil => exact absurd (List.length_eq_zero_iff.mp this) hne
      | cons a r => rfl
    refine wpAny_binaryOp_repeat_ref (T := "tuple") (U := "int") (by decide +kernel) ⟨_, eb, rfl⟩ (fun _ => rfl) noFill_tuple_mul F.fills_int_mul F.slot_int_rmul repeat_tuple AutoSeq1.idx_int ?_
    refine call_meets F.slot_int_rmul rfl F.entry_int_rmul (F.args_int_rmul_2 _ _) (int_rmul_tuple _ _ _ _ _ _ _) ⟨eb, ?_⟩
    refine ⟨rfl, ⟨_, eb, rfl⟩, ?_⟩
    obtain hk0 | hk1 : k = 0 ∨ k = 1 := by omega
    · subst hk0
      refine call_meets F.slot_tuple_mul ⟨_, eb, rfl⟩ F.entry_tuple_mul (F.args_tuple_mul_2 _ _) (tuple_mul0 _ _ _ _ _ _ hie) ⟨eb, ?_⟩
      have hn := I.hok.fresh (Nat.le_refl s.heap.objs.size)
      exact ⟨.ref s.heap.objs.size, _, I.laid (t' := s.toks) (fun b o e => Heap.get?_push_of_some _ e) (Nat.le_refl _) (show ObjOk X.prog X.w _ _ _ (.tup []) from ⟨Nat.zero_le _, [], .nil, IsTup.new _ _⟩), rfl, q _ _ (fun b o e => by rw [upd_ne (ne_of_none e hn)]; exact e) upd_same⟩
    · subst hk1
      refine call_meets F.slot_tuple_mul ⟨_, eb, rfl⟩ F.entry_tuple_mul (F.args_tuple_mul_2 _ _) (tuple_mul1 _ _ _ _ _ _) ⟨eb, ?_⟩
      refine ⟨.ref l, H, I, rfl, q l H (Same.refl _) ?_⟩
      rw [hx, List.replicate_one, List.flatten_singleton]
end L2

set_option Elab.async false
set_option linter.all false
set_option maxRecDepth 100000
set_option maxHeartbeats 4000000
/-! len of a set; min of a tuple of ints -/
namespace L2
open PySem PySem.Spec PyProof.Rows PySem.W
section
variable {X : Cx}
def rLenSet (w : World) : List V → Hp → VK → Prop := fun xs H Q => ∃ (a : Addr) (S : Int → Bool) (n : Nat), xs = [V.ref a] ∧ H a = some (SetO w a S n) ∧ ∀ ks : List Int, ks.Nodup → (∀ k, S k = true ↔ k ∈ ks) → ks.length = n → Q (.int (n : Nat)) H
theorem cr_lenSet : CallR X (.builtin "len") (rLenSet X.w) := by
  intro pins s σ H xs us Q I r h
  obtain ⟨a, S, n, rfl, e, q⟩ := h
  rw [Vals.ref1 r]
  have ok := I.hok a _ e
  unfold SetO ObjOk at ok
  obtain ⟨⟨o, es, ep, t, h1, h2, h3, h4, h5, h6, h7, h8, h9, _, _⟩, _, _⟩ := ok
  have hb : (es.size : Int) < 2 ^ 63 := by
    have : scanBound ≤ 1048576 := by unfold scanBound; decide
    omega
  refine call_len_set h1 h2 h3 h8 hb ?_
  subst h9
  exact ⟨.int (es.size : Nat), H, I.kept (fun _ _ e => e), ⟨_, rfl⟩, q _ h5 h6 (by rw [List.length_map, Array.length_toList])⟩
theorem reads_int1 {h : Heap} {k m : Int} {t : Tok} {as : List Addr} (r : Reads h (.int k t) (.int m) as) : k = m := by
  cases r
  rfl
theorem readsAll_ints {h : Heap} : ∀ {ns : List Int} {us : List Value}, Vals (ns.map V.int) us → ∃ as, ReadsAll h us (ns.map PyData.int) as
  | [], _, .nil => ⟨_, .nil⟩
  | n :: ns, _, .cons r v => by
    obtain ⟨t, rfl⟩ := r
    obtain ⟨as, ra⟩ := readsAll_ints v
    exact ⟨_, .cons (.int n t) ra⟩
theorem depth_ints0 : ∀ ns : List Int, PyData.depthAll (ns.map PyData.int) ≤ 1
  | [] => by simp [PyData.depthAll]
  | a :: l => by
    have := depth_ints0 l
    rw [List.map_cons, PyData.depthAll]
    simp only [PyData.depth]
    omega
theorem fmin_le : ∀ (l : List Int) (a : Int), l.foldl min a ≤ a ∧ ∀ z ∈ l, l.foldl min a ≤ z
  | [], a => ⟨Int.le_refl _, fun z hz => nomatch hz⟩
  | b :: l, a => by
    obtain ⟨h1, h2⟩ := fmin_le l (min a b)
    rw [List.foldl_cons]
    refine ⟨by omega, fun z hz => ?_⟩
    rcases List.mem_cons.mp hz with rfl | hz
    · omega
    · exact h2 z hz
def rMinTu (K : PySem.W.Frag) : List V → Hp → VK → Prop := fun vs H Q => ∃ (a : Addr) (ns : List Int), vs = [V.ref a] ∧ SqT K H a (ns.map V.int) ∧ ns ≠ [] ∧ ∀ m : Int, m ∈ ns → (∀ z ∈ ns, m ≤ z) → Q (.int m) H
theorem cr_minTu (hh : X.A.handled = none) (hu : X.A.units + 65 < cLine) : CallR X (.builtin "min") (rMinTu X.K) := by
  intro pins s σ H vs us Q I r h
  obtain ⟨a, ns, rfl, hs, hne, q⟩ := h
  obtain ⟨its, rv, tc, hz⟩ := I.tuple hs
  rw [Vals.ref1 r]
  obtain ⟨n, l, rfl⟩ : ∃ n l, ns = n :: l := by
    cases ns with
    | nil => exact absurd rfl hne
    | cons n l => exact ⟨n, l, rfl⟩
  obtain ⟨as, ra⟩ := readsAll_ints (h := s.heap) rv
  refine min_tuple_data (x := .int n) (xs := l.map PyData.int) hh tc (by simpa using ra) ⟨?_, ?_⟩ ?_ fun i v h' tk cs hv hr kp => ?_
  · intro x hx y hy
    rw [← List.map_cons] at hx hy
    obtain ⟨b1, _, rfl⟩ := List.mem_map.mp hx
    obtain ⟨b2, _, rfl⟩ := List.mem_map.mp hy
    simp [alike]
  · intro x hx
    rw [← List.map_cons] at hx
    obtain ⟨b1, _, rfl⟩ := List.mem_map.mp hx
    intro z
    cases z
  · have := depth_ints0 (n :: l)
    rw [List.map_cons] at this
    omega
  · have hv' : its[i]? = some v := by simpa using hv
    have hl := rv.length
    have hi : i < (n :: l).length := by
      rw [List.length_map] at hl
      rw [hl]
      exact (List.getElem?_eq_some_iff.mp hv').1
    obtain ⟨z, ez, rz⟩ := rv.get (i := i) (x := V.int (n :: l)[i]) (by rw [List.getElem?_map, List.getElem?_eq_getElem hi]; rfl)
    rw [hv'] at ez
    cases ez
    obtain ⟨t, rfl⟩ := rz
    rw [minD_ints] at hr
    obtain ⟨h1, h2⟩ := fmin_le l n
    have e : (n :: l)[i] = l.foldl min n := reads_int1 hr
    exact ⟨.int _, H, I.kept kp, ⟨t, rfl⟩, q _ (List.getElem_mem hi) fun z hz => by
      rw [e]
      rcases List.mem_cons.mp hz with rfl | hz
      · exact h1
      · exact h2 z hz⟩
end
end L2

set_option Elab.async false
set_option linter.all false
set_option maxRecDepth 100000
set_option maxHeartbeats 2000000
/-! own rules: slices of tuples that are known to have no dict; t.index(text) -/
namespace L2
open PySem PySem.Spec PyProof.Rows L2
section
variable {X : Cx}
def rSlF (K : PySem.W.Frag) : V → Option Int → Option Int → Hp → VK → Prop := fun x lo hi H Q => ∃ a xs, x = .ref a ∧ SqT K H a xs ∧
  ¬ (HT.sIx xs.length 0 lo = 0 ∧ HT.sIx xs.length xs.length hi = xs.length) ∧ ∀ p o, H p = none → o.dict = none → Q (.ref p) (upd H p (.frz o (.tup (cutV xs lo hi))))
theorem sl_tupF : SlR X (rSlF X.K) := by
  intro pins s σ H x v vl vu lo hi sl Q I rx hs pl pu h
  obtain ⟨a, xs, rfl, hx, hw, q⟩ := h
  cases rx
  obtain ⟨its, r, ht, hz⟩ := I.tuple hx
  have hlen : its.toArray.size = xs.length := by rw [List.size_toArray]; exact r.length.symm
  refine ⟨"tuple", _, PyProof.Rows.slot_tuple_getitem.lookup, ht.typeIs, ?_⟩
  refine HT.getItem_tuple_cut ht hs pl pu (by rw [hlen]; exact hw) ?_ (by rw [hlen]; exact hz)
  rw [hlen]
  have hv := (r.drop (HT.sIx xs.length 0 lo)).take (HT.sIx xs.length xs.length hi - HT.sIx xs.length 0 lo)
  refine ⟨.ref s.heap.objs.size, _, I.laid (t' := s.toks) (o := .frz { cls := .type "tuple", data := .seq (((its.drop (HT.sIx xs.length 0 lo)).take (HT.sIx xs.length xs.length hi - HT.sIx xs.length 0 lo)).toArray) } (.tup (cutV xs lo hi))) (fun b ob q => Heap.get?_push_of_some _ q) (Nat.le_refl _) ?_, rfl, q _ _ (I.hok.fresh (Nat.le_refl _)) rfl⟩
  exact ⟨Heap.get?_push_size _ rfl, Nat.le_trans (cutV_length xs lo hi) hz, _, hv, IsTup.new _ _⟩
/-- t.index(x), texts, x there -/
def rIndexS (K : PySem.W.Frag) : V → List V → Hp → VK → Prop := fun x vs H Q => ∃ (a : Addr) (ns : List Str) (k : Str) (j : Nat), x = .ref a ∧ vs = [.str k] ∧ SqT K H a (ns.map V.str) ∧ (∀ z ∈ ns, (PyData.str z).canLay0 = true) ∧ ns[j]? = some k ∧ (∀ m, m < j → ns[m]? ≠ some k) ∧ Q (.int (j : Nat)) H
theorem dpAll_strs (K : PySem.W.Frag) (H : Hp) : ∀ ns : List Str, DpAll K H (ns.map V.str) (ns.map PyData.str)
  | [] => .nil
  | n :: ns => .cons (.str n) (dpAll_strs K H ns)
theorem lay_strs : ∀ ns : List Str, (∀ z ∈ ns, (PyData.str z).canLay0 = true) → PyData.canLayAll0 (ns.map PyData.str) = true
  | [], _ => rfl
  | n :: ns, h => by
    rw [List.map_cons, PyData.canLayAll0, lay_strs ns (fun z hz => h z (List.mem_cons_of_mem _ hz)), h n List.mem_cons_self]
    rfl
theorem str_beq (a b : Str) : PyData.eqv (.str a) (.str b) = (a == b) := rfl
theorem mt_indexTS (hu : X.A.units + 65 < cLine) : MtR X "tuple.index" (rIndexS X.K) := by
  intro pins s σ H x xs v us Q I rx rxs h
  obtain ⟨a, ns, k, j, rfl, rfl, hl, hlay, hj, hno, q⟩ := h
  cases rx
  cases rxs with
  | cons ry rt =>
    rename_i uy ut
    cases rt
    obtain ⟨its, rv, pl, hlen⟩ := I.tuple hl
    obtain ⟨as, h4⟩ := Dp.readsAll I (ns.map PyData.str) _ its (dpAll_strs _ _ ns) rv
    obtain ⟨bs, r1⟩ := Dp.reads I (.str k) _ uy (.str k) ry
    have hjl := (List.getElem?_eq_some_iff.mp hj).1
    have hvl := rv.length
    rw [List.length_map] at hvl hlen
    obtain ⟨⟨cls, dd, data, sl⟩, ho, hc, n, hd'⟩ := id pl
    simp only at hc hd'
    subst hc hd'
    have hxs : PyData.canLayAll0 (ns.map PyData.str) = true := lay_strs ns hlay
    have hmap : its.map (SeqAt.readOf s.heap) = ns.map PyData.str := SeqAt.readsAll_map _ its as hxs h4
    have at_ : ∀ (m : Nat) (hm : m < its.toArray.size) (z : Str), ns[m]? = some z → SeqAt.readOf s.heap its.toArray[m] = .str z := by
      intro m hm z hz
      have hml : m < its.length := by simpa using hm
      have e1 : (its.map (SeqAt.readOf s.heap))[m]? = some (.str z) := by rw [hmap, List.getElem?_map, hz]; rfl
      rw [List.getElem?_map, List.getElem?_eq_getElem hml] at e1
      have e2 : SeqAt.readOf s.heap its[m] = .str z := Option.some.inj e1
      simpa using e2
    have hj2 : j < its.toArray.size := by simp only [List.size_toArray]; omega
    refine call_meets F.slot_tuple_index ⟨_, ho, rfl⟩ F.entry_tuple_index (F.args_tuple_index_2 _ _)
      (TI.tuple_indexAt a its.toArray n dd sl uy (fun u => PyData.eqv (SeqAt.readOf s.heap u) (.str k)) j hj2 ?_ ?_) ⟨ho, SeqAt.items_eqAt (vs := its.toArray) (show ReadsAll s.heap its.toArray.toList (ns.map PyData.str) as from h4) r1 hxs (hlay k (List.mem_of_getElem? hj)) (Nat.lt_of_le_of_lt (Nat.add_le_add_left (Nat.min_le_right _ _) _) (by simp only [PyData.depth]; omega)), ?_⟩
    · show PyData.eqv (SeqAt.readOf s.heap its.toArray[j]) (.str k) = true
      rw [at_ j hj2 k hj]
      show (k == k) = true
      exact beq_self_eq_true k
    · intro m hm hmj
      have hmn : m < ns.length := by simp only [List.size_toArray] at hm; omega
      have hz : ns[m]? = some ns[m] := List.getElem?_eq_getElem hmn
      show PyData.eqv (SeqAt.readOf s.heap its.toArray[m]) (.str k) = false
      rw [at_ m hm _ hz]
      show (ns[m] == k) = false
      exact beq_eq_false_iff_ne.mpr fun z => hno m hmj (by rw [hz, z])
    · exact ⟨.int (j : Nat), H, I.tok _, ⟨_, rfl⟩, q⟩
end
theorem sameUp {H : Hp} {p : Addr} {o : HO} (np : H p = none) : Same H (upd H p o) := fun b u e => by
  rw [upd_ne (fun z => by rw [z, np] at e; cases e)]
  exact e
def rListK (K : PySem.W.Frag) : List V → Hp → VK → Prop := fun xs H Q => ∃ p ys, xs = [.ref p] ∧ (SqL K H p ys ∨ SqT K H p ys) ∧ ∀ l, H l = none → Q (.ref l) (upd H l (.lst ys))
theorem call_listK {X : Cx} : CallR X (.type "list") (rListK X.K) := call_list_of
def rTupK (K : PySem.W.Frag) : List V → Hp → VK → Prop := fun xs H Q => ∃ p ys, xs = [.ref p] ∧ ((SqL K H p ys ∧ ∀ l, H l = none → Q (.ref l) (upd H l (.tup ys))) ∨ (SqT K H p ys ∧ Q (.ref p) H))
theorem call_tupleK {X : Cx} : CallR X (.type "tuple") (rTupK X.K) := call_tuple_of
def tTruL (K : PySem.W.Frag) (ta : TE) : L2.TT := fun σ H Q => ta σ H fun x H' => ∃ k, TruV K x H' k ∧ Q k H'
theorem pt_truL {X : Cx} {K : PySem.W.Frag} {a : Expr} {ta : TE} (hK : X.K = K) (ha : PE X a ta) (he : ∀ whole, isTrue a X.env whole = (do let v ← whole; standAt a.pos; holding [v] (truthy v))) : PT X a (tTruL K ta) := by
  subst hK
  exact pt_truth ha he
/-! slices and sums of tuples, whichever object comes of them -/
theorem SqT.whole {xs : List V} {lo hi : Option Int} (h : HT.sIx xs.length 0 lo = 0 ∧ HT.sIx xs.length xs.length hi = xs.length) : cutV xs lo hi = xs := by
  unfold cutV
  rw [h.1, h.2, List.drop_zero, Nat.sub_zero, List.take_length]
theorem slA {K : PySem.W.Frag} {H : Hp} {a : Addr} {xs : List V} {lo hi : Option Int} {Q : VK} (ha : SqT K H a xs) (q : ∀ (H' : Hp) (p : Addr), Same H H' → SqT K H' p (cutV xs lo hi) → Q (.ref p) H') : rSlA K (.ref a) lo hi H Q :=
  ⟨a, xs, rfl, ha, fun h => q H a (Same.refl _) (by rw [SqT.whole h]; exact ha), fun _ p np => q _ p (sameUp np) (SqT.of upd_same)⟩
/-- the same, the new tuple standing by itself where the old one does -/
theorem slA' {K : PySem.W.Frag} {H : Hp} {a : Addr} {xs : List V} {lo hi : Option Int} {Q : VK} (ha : H a = some (.tup xs)) (q : ∀ (H' : Hp) (p : Addr), Same H H' → H' p = some (.tup (cutV xs lo hi)) → Q (.ref p) H') : rSlA K (.ref a) lo hi H Q :=
  ⟨a, xs, rfl, SqT.of ha, fun h => q H a (Same.refl _) (by rw [SqT.whole h]; exact ha), fun _ p np => q _ p (sameUp np) upd_same⟩
theorem catA {K : PySem.W.Frag} {H : Hp} {a b : Addr} {xs ys : List V} {Q : VK} (ha : SqT K H a xs) (hb : SqT K H b ys) (hl : xs.length + ys.length ≤ sizeLine) (q : ∀ (H' : Hp) (p : Addr), Same H H' → SqT K H' p (xs ++ ys) → Q (.ref p) H') : rCatA K (.ref a) (.ref b) H Q :=
  ⟨a, b, xs, ys, rfl, rfl, ha, hb, hl, fun h => q H b (Same.refl _) (by rw [h]; exact hb), fun _ h => q H a (Same.refl _) (by rw [h, List.append_nil]; exact ha), fun _ _ p np => q _ p (sameUp np) (SqT.of upd_same)⟩
theorem catA' {K : PySem.W.Frag} {H : Hp} {a b : Addr} {xs ys : List V} {Q : VK} (ha : H a = some (.tup xs)) (hb : H b = some (.tup ys)) (hl : xs.length + ys.length ≤ sizeLine) (q : ∀ (H' : Hp) (p : Addr), Same H H' → H' p = some (.tup (xs ++ ys)) → Q (.ref p) H') : rCatA K (.ref a) (.ref b) H Q :=
  ⟨a, b, xs, ys, rfl, rfl, SqT.of ha, SqT.of hb, hl, fun h => q H b (Same.refl _) (by rw [h]; exact hb), fun _ h => q H a (Same.refl _) (by rw [h, List.append_nil]; exact ha), fun _ _ p np => q _ p (sameUp np) upd_same⟩
theorem sIx_m1 {n : Nat} (d : Nat) (h : 1 ≤ n) : HT.sIx n d (some (-1)) = n - 1 := by
  unfold HT.sIx
  simp
  omega
theorem cutv_to (xs : List V) (k : Nat) : cutV xs none (some (k : Int)) = xs.take k := by
  unfold cutV
  rw [HT.sIx_none, HT.sIx_nat, List.drop_zero, Nat.sub_zero]
  by_cases h : k ≤ xs.length
  · rw [Nat.min_eq_left h]
  · rw [Nat.min_eq_right (by omega), List.take_length, List.take_of_length_le (by omega)]
theorem cutv_from (xs : List V) (k : Nat) : cutV xs (some (k : Int)) none = xs.drop k := by
  unfold cutV
  rw [HT.sIx_none, HT.sIx_nat]
  by_cases h : k ≤ xs.length
  · rw [Nat.min_eq_left h, List.take_of_length_le (by rw [List.length_drop]; omega)]
  · rw [Nat.min_eq_right (by omega), Nat.sub_self, List.take_zero, List.drop_eq_nil_of_le (by omega)]
theorem cutv_init {xs : List V} (h : 1 ≤ xs.length) : cutV xs none (some (-1)) = xs.dropLast := by
  unfold cutV
  rw [HT.sIx_none, sIx_m1 _ h, List.drop_zero, Nat.sub_zero, List.dropLast_eq_take]
theorem not_whole_init {n : Nat} (h : 1 ≤ n) : ¬ (HT.sIx n 0 none = 0 ∧ HT.sIx n n (some (-1)) = n) := by
  rw [sIx_m1 _ h]
  omega
theorem atV_last {α : Type} (f : α → V) (d : α) {xs : List α} (h : 1 ≤ xs.length) : atI (xs.map f) (-1) = some (f (xs.getLastD d)) := by
  unfold atI ixN
  rw [if_neg (by omega), if_pos (by rw [List.length_map]; omega), List.length_map, show ((-1 : Int) + (xs.length : Nat)).toNat = xs.length - 1 by omega]
  show (xs.map f)[xs.length - 1]? = _
  rw [List.getElem?_map, List.getElem?_eq_getElem (by omega), List.getLastD_eq_getLast?, List.getLast?_eq_getElem?, List.getElem?_eq_getElem (by omega)]
  rfl
theorem atV_nat {α : Type} (f : α → V) (d : α) {xs : List α} {i : Nat} (h : i < xs.length) : atI (xs.map f) (i : Int) = some (f (xs.getD i d)) := by
  refine atI_nat ?_
  rw [List.getElem?_map, List.getElem?_eq_getElem h, List.getD_eq_getElem?_getD, List.getElem?_eq_getElem h]
  rfl
end L2

set_option Elab.async false
set_option linter.all false
set_option maxRecDepth 100000
set_option maxHeartbeats 400000
/-! zip(xs, t): each a list or a tuple, told by a Bool (true: a tuple) -/
namespace Zm
open PySem PySem.Spec PyProof.Rows L2
open PySem.Sem (wp)
def SqM (K : PySem.W.Frag) (t : Bool) (H : Hp) (a : Addr) (xs : List V) : Prop := match t with
  | true => SqT K H a xs
  | false => SqL K H a xs
def hSq (t : Bool) (h : Heap) (a : Addr) (xs : Array Value) : Prop := match t with
  | true => h.IsTuple a xs
  | false => h.IsList a xs
def hIt (t : Bool) (h : Heap) (it a : Addr) (i : Nat) : Prop := match t with
  | true => h.IsTupleIter it a i
  | false => h.IsListIter it a i
def nIt (t : Bool) : String := if t then "tuple_iterator" else "list_iterator"
def oIt (t : Bool) (a : Addr) : Obj := { cls := .type (nIt t), data := .fields #[.ref a, .int 0 0] }
theorem hIt_young {t : Bool} {h : Heap} {it a : Addr} (e : h.get? it = some (oIt t a)) : hIt t h it a 0 := by
  cases t <;> exact ⟨_, e, rfl, rfl⟩
theorem hIt_there {t : Bool} {h : Heap} {it a : Addr} {i : Nat} (e : hIt t h it a i) : ∃ o, h.get? it = some o ∧ ∀ v, o.data ≠ .cell v := by
  cases t <;> (obtain ⟨o, e1, _, d⟩ := e; exact ⟨o, e1, fun v q => by rw [d] at q; cases q⟩)
theorem hIt_at {t : Bool} {h h' : Heap} {it a : Addr} {i : Nat} (e : hIt t h it a i) (k : ∀ o, h.get? it = some o → h'.get? it = some o) : hIt t h' it a i := by
  cases t
  · exact Heap.IsListIter.at e k
  · exact Heap.IsTupleIter.at e k
theorem hSq_lt {t : Bool} {h : Heap} {a : Addr} {xs : Array Value} (e : hSq t h a xs) : a < h.objs.size := by
  cases t <;> (obtain ⟨o, e1, _⟩ := e; exact Heap.lt_size e1)
theorem hSq_up {t : Bool} {h h' : Heap} {a : Addr} {xs : Array Value} (e : hSq t h a xs) (k : ∀ o, h.get? a = some o → h'.get? a = some o) : hSq t h' a xs := by
  cases t <;> (obtain ⟨o, e1, r⟩ := e; exact ⟨o, k _ e1, r⟩)
theorem sq_get {X : Cx} {pins : List (Addr × Obj)} {σ : L2.St} {H : Hp} {s : Shared} {t : Bool} {a : Addr} {xs : List V} (I : Inv X pins σ H s) (q : SqM X.K t H a xs) :
    ∃ its : List Value, Vals xs its ∧ hSq t s.heap a its.toArray := by
  cases t
  · obtain ⟨its, rv, p, _⟩ := I.list q
    exact ⟨its, rv, p.isList⟩
  · obtain ⟨its, rv, p, _⟩ := I.tuple q
    exact ⟨its, rv, p⟩
theorem sq_one {X : Cx} {pins : List (Addr × Obj)} {σ : L2.St} {H : Hp} {s : Shared} {t : Bool} {a : Addr} {xs ys : List V} (I : Inv X pins σ H s) (q : SqM X.K t H a xs) (q2 : SqM X.K t H a ys) : xs = ys := by
  cases t
  · exact I.list_inj q q2
  · exact I.tuple_inj q q2
section
variable {prog : Program} {w : World} {A : Around}
theorem drawM (hh : A.handled = none) (t : Bool) (it a : Addr) (hne : a ≠ it) (items : Array Value) :
    Draws prog w A it [it, a] items.size (fun i v => items[i]? = some v) (fun i h => hIt t h it a i ∧ hSq t h a items) := by
  cases t
  · exact Draws.list hh it a hne items
  · exact Draws.tuple hh it a hne items
theorem newM {E : Value → Shared → Prop} {s : Shared} {t : Bool} {a : Addr} {items : Array Value} {Q : Value → Shared → Prop} (hl : hSq t s.heap a items)
    (hQ : Q (.ref s.heap.objs.size) { s with heap := s.heap.push (oIt t a) }) : wpAny (model prog w) A (pyIter (.ref a)) Q E s := by
  cases t
  · exact wpAny_pyIter_list hl hQ
  · exact wpAny_pyIter_tuple hl hQ
end
/-- the five new things, one behind the other -/
def zNew (n : Nat) (t1 t2 : Bool) (a b : Addr) : List Obj :=
  [oIt t1 a, oIt t2 b, { cls := .type "tuple", data := .seq #[.ref n, .ref (n + 1)] }, { cls := .type "tuple", data := .seq #[.none, .none] },
   { cls := .type "zip", data := .fields #[.none, .bool false, .bool false, .ref (n + 2), .ref (n + 3)] }]
def pushes (h : Heap) (os : List Obj) : Heap := os.foldl Heap.push h
theorem pushes_size : ∀ (os : List Obj) (h : Heap), (pushes h os).objs.size = h.objs.size + os.length
  | [], _ => rfl
  | o :: os, h => by
    show (pushes (h.push o) os).objs.size = _
    rw [pushes_size os, Heap.size_push, List.length_cons]
    omega
theorem pushes_keep : ∀ (os : List Obj) (h : Heap) (c : Addr) (o : Obj), h.get? c = some o → (pushes h os).get? c = some o
  | [], _, _, _, e => e
  | _ :: os, h, c, o, e => pushes_keep os _ c o (Heap.get?_push_of_some _ e)
theorem pushes_get (os : List Obj) : ∀ (h : Heap) (i : Nat) (o : Obj), os[i]? = some o → o.isFreed = false → (pushes h os).get? (h.objs.size + i) = some o := by
  induction os with
  | nil => intro h i o e _; cases e
  | cons p os ih =>
    intro h i o e f
    cases i with
    | zero =>
      have e : some p = some o := e
      injection e with e
      rw [e]
      exact pushes_keep os (h.push o) _ _ (Heap.get?_push_size _ f)
    | succ i =>
      have r := ih (h.push p) i o e f
      have z : (h.push p).objs.size + i = h.objs.size + (i + 1) := by rw [Heap.size_push]; omega
      rw [z] at r
      exact r
theorem nA {x y : Nat} (h : x < y ∨ y < x) : ¬ @Eq Addr x y := fun e => by
  have e : @Eq Nat x y := e
  omega
theorem meets_new (t1 t2 : Bool) (a b : Addr) (xs ys : Array Value) :
    Meets (Builtin.«zip.__new__» ⟨[.type "zip", .ref a, .ref b], []⟩) (fun _ R s => hSq t1 s.heap a xs ∧ hSq t2 s.heap b ys ∧
      R (.ok (.ret (.ref (s.heap.objs.size + 4)))) { s with heap := pushes s.heap (zNew s.heap.objs.size t1 t2 a b) }) :=
  .of_wp fun prog w A R s h => by
    obtain ⟨hp, g, d, tk, os⟩ := s
    obtain ⟨h1, h2, h⟩ := h
    have hsub := sub_zip
    have h2 : hSq t2 (hp.push (oIt t1 a)) b ys := hSq_up h2 fun o e => Heap.get?_push_of_some _ e
    have q1 : ∀ {A' : Around} {E : Value → Shared → Prop} {Q : Value → Shared → Prop}, Q (.ref hp.objs.size) ⟨hp.push (oIt t1 a), g, d, tk, os⟩ → wpAny (model prog w) A' (pyIter (.ref a)) Q E ⟨hp, g, d, tk, os⟩ :=
      fun q => newM (s := ⟨hp, g, d, tk, os⟩) h1 q
    have q2 : ∀ {A' : Around} {E : Value → Shared → Prop} {Q : Value → Shared → Prop}, Q (.ref (hp.push (oIt t1 a)).objs.size) ⟨(hp.push (oIt t1 a)).push (oIt t2 b), g, d, tk, os⟩ → wpAny (model prog w) A' (pyIter (.ref b)) Q E ⟨hp.push (oIt t1 a), g, d, tk, os⟩ :=
      fun q => newM (s := ⟨hp.push (oIt t1 a), g, d, tk, os⟩) h2 q
    wp_walk using q1, q2
    refine ⟨_, rfl, ?_⟩
    have z1 : ∀ (h : Heap) (o : Obj), (h.push o).objs.size = h.objs.size + 1 := fun h o => Heap.size_push ..
    simp only [z1]
    exact h
section
variable {prog : Program} {w : World} {A : Around} {E : Value → Shared → Prop} {s : Shared}
theorem callM {t1 t2 : Bool} {a b : Addr} {xs ys : Array Value} {Q : Value → Shared → Prop} (h1 : hSq t1 s.heap a xs) (h2 : hSq t2 s.heap b ys)
    (h : Q (.ref (s.heap.objs.size + 4)) { s with heap := pushes s.heap (zNew s.heap.objs.size t1 t2 a b) }) :
    wpAny (model prog w) A (call (.type "zip") [.ref a, .ref b]) Q E s := by
  refine callType_new F.called_zip (by decide) (F.typeCall_zip_2 _ _) (F.newCall_zip_2 _ _) (fun obj => F.args_object_init_3 obj _ _) F.entry_zip_new
    (meets_new t1 t2 a b xs ys) ⟨h1, h2, ⟨_, pushes_get (zNew s.heap.objs.size t1 t2 a b) s.heap 4 _ rfl rfl, rfl⟩, h⟩
end
/-- a turn's pair is new -/
def ItM (K : PySem.W.Frag) (t1 t2 : Bool) (a b : Addr) : It :=
  ⟨fun i H => ∃ xs ys : List V, SqM K t1 H a xs ∧ SqM K t2 H b ys ∧ i < min xs.length ys.length,
    fun i H v H' => ∃ (T : Addr) (x y : V), v = .ref T ∧ H T = none ∧ H' = upd H T (.tup [x, y]) ∧ (∀ xs, SqM K t1 H a xs → xs[i]? = some x) ∧ ∀ ys, SqM K t2 H b ys → ys[i]? = some y,
    fun i H => ∃ xs ys : List V, SqM K t1 H a xs ∧ SqM K t2 H b ys ∧ i = min xs.length ys.length⟩
def StM (t1 t2 : Bool) (n : Nat) (a b : Addr) (i : Nat) (h : Heap) : Prop :=
  IsZip h (n + 4) (n + 2) (n + 3) .none ∧ IsTupOf2 h (n + 2) (.ref n) (.ref (n + 1)) ∧ (∃ x y, IsTupOf2 h (n + 3) x y) ∧ hIt t1 h n a i ∧ hIt t2 h (n + 1) b i
def five (n : Nat) : List Addr := [n + 4, n + 2, n + 3, n, n + 1]
theorem sepM {n a b : Nat} (ha : a < n) (hb : b < n) : ZipSep2 (n + 4) (n + 2) (n + 3) n (n + 1) [n, a] [n + 1, b] := by
  constructor <;> simp only [List.mem_cons, List.not_mem_nil, or_false, ne_eq, not_or, true_or, or_true] <;> first | exact nA (by omega) | exact ⟨nA (by omega), nA (by omega)⟩
theorem turnM {P : Program} {w : World} {K : PySem.W.Frag} {elts : List Expr} {kk : Nat} {tpos : Pos} {t1 t2 : Bool} {n a b : Nat} (ha : a < n) (hb : b < n) :
    Turn P w K (.Tuple elts kk tpos) (ItM K t1 t2 a b) (five n) (n + 4) (StM t1 t2 n a b) where
  mem := List.mem_cons_self
  obj := fun i h st c hc => by
    obtain ⟨g1, g2, ⟨x, y, g3⟩, g4, g5⟩ := st
    simp only [five, List.mem_cons, List.not_mem_nil, or_false] at hc
    rcases hc with q | q | q | q | q <;> subst q
    · exact ⟨_, g1, fun v q => nomatch q⟩
    · exact ⟨_, g2, fun v q => nomatch q⟩
    · exact ⟨_, g3, fun v q => nomatch q⟩
    · exact hIt_there g4
    · exact hIt_there g5
  keep := fun i h h' st k => by
    obtain ⟨g1, g2, ⟨x, y, g3⟩, g4, g5⟩ := st
    have k : ∀ d ∈ five n, ∀ o, h.get? d = some o → h'.get? d = some o := k
    simp only [five, List.forall_mem_cons, List.not_mem_nil] at k
    exact ⟨k.1 _ g1, k.2.1 _ g2, ⟨x, y, k.2.2.1 _ g3⟩, hIt_at g4 k.2.2.2.1, hIt_at g5 k.2.2.2.2.1⟩
  item := by
    intro X hP hw hK hc i pins s σ H E I hf st hg
    subst hP hw hK
    obtain ⟨g1, g2, ⟨x0, y0, g3⟩, g4, g5⟩ := st
    obtain ⟨xs, ys, qx, qy, hi⟩ := hg
    obtain ⟨us, rx, px⟩ := sq_get I qx
    obtain ⟨vs, ry, py⟩ := sq_get I qy
    have lx := rx.length
    have ly := ry.length
    have hdl : X.A.in1.handled = none := I.ok.hd hc
    refine wpAny_pyNext_zipD2_item (sepM ha hb) (drawM hdl t1 n a (Nat.ne_of_lt ha) us.toArray) (drawM hdl t2 (n + 1) b (Nat.ne_of_lt (Nat.lt_succ_of_lt hb)) vs.toArray) g1 g2 g3 ⟨g4, px⟩ ⟨g5, py⟩
      (by rw [List.size_toArray]; omega) (by rw [List.size_toArray]; omega) fun u v h' tk hu hv z1 z3 d1 d2 hT hsz hk => ?_
    have hzl : n + 4 < s.heap.objs.size := Heap.lt_size g1
    refine ⟨_, rfl, wpAny_letOwnedTupleGo_zip (s := { s with heap := h', toks := tk }) z1 fun h2 z2 sb => ?_⟩
    have hT2 : h2.get? s.heap.objs.size = some { cls := .type "tuple", data := .seq #[u, v] } := (sb.2 _ (Nat.ne_of_gt hzl)).trans hT
    obtain ⟨x, ex, rux⟩ : ∃ x, xs[i]? = some x ∧ RelV x u := by
      obtain ⟨u', hu', ru⟩ := rx.get (List.getElem?_eq_getElem (show i < xs.length by omega))
      have : us[i]? = some u := by simpa using hu
      rw [this] at hu'
      cases hu'
      exact ⟨_, List.getElem?_eq_getElem _, ru⟩
    obtain ⟨y, ey, rvy⟩ : ∃ y, ys[i]? = some y ∧ RelV y v := by
      obtain ⟨v', hv', rv⟩ := ry.get (List.getElem?_eq_getElem (show i < ys.length by omega))
      have : vs[i]? = some v := by simpa using hv
      rw [this] at hv'
      cases hv'
      exact ⟨_, List.getElem?_eq_getElem _, rv⟩
    have out : ∀ c, c ∉ five n → c ≠ n + 4 ∧ c ≠ n + 3 ∧ c ≠ n ∧ c ≠ n + 1 := fun c hc => by
      simp only [five, List.mem_cons, List.not_mem_nil, or_false, not_or] at hc
      exact ⟨hc.1, hc.2.2.1, hc.2.2.2.1, hc.2.2.2.2⟩
    have young : ObjOk X.prog X.w (upd H s.heap.objs.size (.tup [x, y])) h2 s.heap.objs.size (.tup [x, y]) :=
      ⟨by show 2 ≤ sizeLine; decide, [u, v], .cons rux (.cons rvy .nil), ⟨_, hT2, rfl, _, rfl⟩⟩
    have I1 : Inv X pins σ (upd H s.heap.objs.size (.tup [x, y])) { s with heap := h2, toks := tk } :=
      I.turnedNew (t' := tk) (ch := five n) (fun c o hb q => by
        obtain ⟨c1, c2, c3, c4⟩ := out c hb
        exact (sb.2 c c1).trans (hk c o c1 c2 c3 c4 q)) hf (Nat.le_refl _) young
    refine ⟨.ref s.heap.objs.size, _, I1, rfl, ⟨_, x, y, rfl, I.hok.fresh (Nat.le_refl _), rfl, fun l hl => by rw [sq_one I hl qx]; exact ex, fun l hl => by rw [sq_one I hl qy]; exact ey⟩, ?_, fun c hcm => ?_⟩
    · have sbk : ∀ c o, c ≠ n + 4 → h'.get? c = some o → h2.get? c = some o := fun c o hc e => (sb.2 c hc).trans e
      have dz : ∀ k : Nat, @LT.lt Nat _ k 4 → ¬ @Eq Addr (n + k) (n + 4) := fun k hk => nA (by omega)
      exact ⟨z2, sbk _ _ (dz 2 (by decide)) (hk _ _ (dz 2 (by decide)) (@nA (n + 2) (n + 3) (by omega)) (@nA (n + 2) n (by omega)) (@nA (n + 2) (n + 1) (by omega)) g2), ⟨u, v, sbk _ _ (dz 3 (by decide)) z3⟩, hIt_at d1.1 fun o e => sbk _ _ (dz 0 (by decide)) e, hIt_at d2.1 fun o e => sbk _ _ (dz 1 (by decide)) e⟩
    · have hlt : c < s.heap.objs.size := by
        have hzl : @LT.lt Nat _ (n + 4) s.heap.objs.size := hzl
        simp only [five, List.mem_cons, List.not_mem_nil, or_false] at hcm
        rcases hcm with q | q | q | q | q <;> subst q <;> show @LT.lt Nat _ _ _ <;> omega
      rw [upd_ne (Nat.ne_of_lt hlt)]
      exact (hf c hcm).1
  done := by
    intro X hP hw hK hc i pins s σ H E I hf st hg
    subst hP hw hK
    obtain ⟨g1, g2, ⟨x0, y0, g3⟩, g4, g5⟩ := st
    obtain ⟨xs, ys, qx, qy, hi⟩ := hg
    obtain ⟨us, rx, px⟩ := sq_get I qx
    obtain ⟨vs, ry, py⟩ := sq_get I qy
    have lx := rx.length
    have ly := ry.length
    have hdl : X.A.in1.handled = none := I.ok.hd hc
    refine wpAny_pyNext_zipD2_end (sepM ha hb) (drawM hdl t1 n a (Nat.ne_of_lt ha) us.toArray) (drawM hdl t2 (n + 1) b (Nat.ne_of_lt (Nat.lt_succ_of_lt hb)) vs.toArray) g1 g2 g3 ⟨g4, px⟩ ⟨g5, py⟩
      (by rw [List.size_toArray]; omega) (by rw [List.size_toArray]; omega) (by rw [List.size_toArray, List.size_toArray]; omega) fun h' tk hk => ⟨rfl, I.turnedL (t' := tk) (ch := five n) (fun c o hb q => ?_) hf⟩
    simp only [five, List.mem_cons, List.not_mem_nil, or_false, not_or] at hb
    exact hk c o hb.1 hb.2.2.1 hb.2.2.2.1 hb.2.2.2.2 q
  self := fun A i s Q E st h => wpAny_pyIter_zip st.1 h
def iZipM (K : PySem.W.Frag) (t1 t2 : Bool) (ta : TA) : TI := fun σ H R => ta σ H fun vs H1 => ∃ (a b : Addr) (xs ys : List V), vs = [.ref a, .ref b] ∧ SqM K t1 H1 a xs ∧ SqM K t2 H1 b ys ∧ R (ItM K t1 t2 a b) H1
theorem pi_zipM {X : Cx} (t1 t2 : Bool) {e e2 : Expr} {ta : TA} {p pos tpos : Pos} {elts : List Expr} {kk : Nat} (hg : Gl X "zip") (hm : X.mg "zip" = none) (ha : PA X [e, e2] ta)
    (hs : starEach [e, e2] X.env = (false, eval e X.env) :: starEach [e2] X.env := by rfl) (hpl : (backTo pos (starEach [e2] X.env)).any (·.1) = false := by rfl) :
    PI X (.Tuple elts kk tpos) (.Call (.Name "zip" p) [e, e2] [] pos) (iZipM X.K t1 t2 ta) := by
  refine ⟨fun pins s σ H R I h => ?_⟩
  refine Call_ (ld_blt I hg hm PyProof.Rows.boot_zip (PyProof.Rows.callWith_type1 (thn (ha.run pos pins s σ H _ I h) fun us s1 ⟨vs, H1, I1, r1, q1⟩ => ?_) hs hpl))
  obtain ⟨a, b, xs, ys, rfl, qx, qy, q⟩ := q1
  obtain ⟨u1, us, rfl, r, r1⟩ : ∃ u1 us', us = u1 :: us' ∧ RelV (.ref a) u1 ∧ Vals [.ref b] us' := by cases r1 with | cons r rr => exact ⟨_, _, rfl, r, rr⟩
  obtain ⟨u2, rfl, r2⟩ := vals1 r1
  cases r
  cases r2
  obtain ⟨is1, rx, px⟩ := sq_get I1 qx
  obtain ⟨is2, ry, py⟩ := sq_get I1 qy
  have la := hSq_lt px
  have lb := hSq_lt py
  refine callM px py ?_
  have gt := fun i o e f => pushes_get (zNew s1.heap.objs.size t1 t2 a b) s1.heap i o e f
  refine wpAny_pyIter_zip (gt 4 _ rfl rfl) ?_
  have I2 : Inv X pins σ H1 { s1 with heap := pushes s1.heap (zNew s1.heap.objs.size t1 t2 a b) } := I1.kept (t' := s1.toks) fun c o e => pushes_keep _ _ c o e
  refine ⟨s1.heap.objs.size + 4, five s1.heap.objs.size, _, _, H1, rfl, I2, turnM la lb, ⟨gt 4 _ rfl rfl, gt 2 _ rfl rfl, ⟨_, _, gt 3 _ rfl rfl⟩, hIt_young (gt 0 _ rfl (by cases t1 <;> rfl)), hIt_young (gt 1 _ rfl (by cases t2 <;> rfl))⟩, fun c hc => ?_, q⟩
  have hle : s1.heap.objs.size ≤ c := by
    simp only [five, List.mem_cons, List.not_mem_nil, or_false] at hc
    rcases hc with q | q | q | q | q <;> subst q <;> show @LE.le Nat _ _ _ <;> omega
  exact I1.fpOk hle (I1.hok.fresh hle)
/-- walked -/
theorem walk_zipM {K : PySem.W.Frag} {t1 t2 : Bool} {a b : Addr} {xs ys : List V} {n : Nat} (hn : n = min xs.length ys.length) :
    Walk (ItM K t1 t2 a b) n (fun H => SqM K t1 H a xs ∧ SqM K t2 H b ys) (YPair (fun i => xs[i]?) (fun i => ys[i]?)) := by
  subst hn
  refine ⟨fun i _ hi q => ⟨xs, ys, q.1, q.2, hi⟩, fun _ q => ⟨xs, ys, q.1, q.2, rfl⟩, fun i H v H' _ q y => ?_⟩
  obtain ⟨T, x, z, h1, h2, h3, h4, h5⟩ := y
  exact ⟨T, x, z, h1, h2, h3, h4 xs q.1, h5 ys q.2⟩
end Zm

set_option Elab.async false
set_option linter.all false
set_option maxRecDepth 100000
set_option maxHeartbeats 1000000
/-! own rules: max(xs, key=lambda x: e) and min, xs a list or a tuple (Zm.SqM), e any expression over the def's shared names and x -/
namespace Lm
open PySem PySem.Spec PyProof.Rows L2 LamX
/-- one parameter, no other name of its own -/
structure LamP (sc scope : Scope) (x : Str) : Prop where
  kind : scope.kind = .function
  co : scope.isCoroutine = false
  gen : scope.isGenerator = false
  par : scope.names.lookup x = some .local
  one : ∀ y ∈ scope.names, y.2 = .local → y.1 = x
  nocell : ∀ y ∈ scope.names, y.2 ≠ .cell
  free : ∀ y ∈ scope.names, y.2 = .free → sc.names.lookup y.1 = some .cell
def lamPB (sc scope : Scope) (x : Str) : Bool :=
  decide (scope.kind = .function) && (!scope.isCoroutine && (!scope.isGenerator && (decide (scope.names.lookup x = some .local) && scope.names.all fun y =>
    (!decide (y.2 = .local) || decide (y.1 = x)) && (!decide (y.2 = .cell) && (!decide (y.2 = .free) || decide (sc.names.lookup y.1 = some .cell))))))
theorem lamP_by {sc scope : Scope} {x : Str} (h : lamPB sc scope x = true) : LamP sc scope x := by
  unfold lamPB at h
  simp only [Bool.and_eq_true, Bool.or_eq_true, Bool.not_eq_true', decide_eq_true_eq, decide_eq_false_iff_not, List.all_eq_true] at h
  obtain ⟨h1, h2, h3, h4, h5⟩ := h
  exact ⟨h1, h2, h3, h4, fun y hy e => (h5 y hy).1.resolve_left fun z => z e, fun y hy => (h5 y hy).2.1, fun y hy e => (h5 y hy).2.2.resolve_left fun z => z e⟩
section
variable {X : Cx} {pins : List (Addr × Obj)} {σ : L2.St} {H : Hp} {s : Shared}
theorem LamP.has {scope : Scope} {x : Str} (L : LamP X.env.scope scope x) (ok : X.Ok) : ∀ y ∈ scope.names, y.2 = .free → ∃ c, X.env.cells.lookup y.1 = some c := fun y hy e => ok.has _ (.inl (L.free y hy e))
/-- what the lambda shares is what the def has -/
theorem clo_sub {scope : Scope} {x : Str} (L : LamP X.env.scope scope x) (ok : X.Ok) {y : Str} {c : Addr} (e : (cloFrom X.env.cells scope.names []).lookup y = some c) : X.env.cells.lookup y = some c := by
  rcases cloFrom_mem (PySem.mem_of_lookup e) with h | ⟨h, hc⟩
  · exact absurd h List.not_mem_nil
  · obtain ⟨d, hd⟩ := L.has ok _ h rfl
    have hd : X.env.cells.lookup y = some d := hd
    have hc : c = (X.env.cells.lookup y).getD 0 := hc
    rw [hd] at hc
    rw [hd, show c = d from hc]
theorem clo_there {scope : Scope} {y : Str} (h : scope.names.lookup y = some .free) : ∃ c, (cloFrom X.env.cells scope.names []).lookup y = some c :=
  mem_lookup (cloFrom_has (cells := X.env.cells) (acc := []) (PySem.mem_of_lookup h))
/-- the lambda's own context, just entered -/
theorem lam_in {A : Around} {E : XK} {scope : Scope} {x : Str} {f c' : Addr} {i : Nat} {v : V} {u : Value} {h1 : Heap} {tk : Nat} (I : Inv X pins σ H s) (L : LamP X.env.scope scope x)
    (e0 : Env0 X.prog X.w X.K X.mg X.base A X.stack s H) (hd : A.handled = none) (hns : h1.Ns s.heap.objs.size fun y => [(x, u)].reverse.lookup y) (kp : ∀ b o, s.heap.get? b = some o → h1.get? b = some o)
    (hN : X.N[i]? = some x) (nd : X.N.Nodup) (r : RelV v u) : Inv (lamCx X A X.stack s H E scope f c') [] (σ.set i (some v)) H { s with heap := h1, toks := tk } := by
  have cellK : ∀ {c : Addr} {z : Option Value}, s.heap.IsCell c z → h1.IsCell c z := fun ⟨o, ho, hd⟩ => ⟨o, kp _ _ ho, hd⟩
  have none_ex : ∀ b : Addr, b ∉ (lamCx X A X.stack s H E scope f c').ex := fun b => List.not_mem_nil
  constructor
  · constructor
    · exact e0.mod
    · exact L.kind
    · rfl
    · rfl
    · exact Nat.le_refl _
    · exact fun y z c a b => I.ok.inj y z c (clo_sub L I.ok a) (clo_sub L I.ok b)
    · intro y hy
      have hy : scope.names.lookup y = some .cell ∨ scope.names.lookup y = some .free := hy
      rcases hy with h | h
      · exact absurd rfl (L.nocell _ (PySem.mem_of_lookup h))
      · exact clo_there h
    · intro y c z
      exact absurd (show false = true from z) Bool.false_ne_true
    · exact fun _ => hd
    · exact Around.frames_deeper e0.frames
    · exact .inr ⟨rfl, rfl⟩
    · exact fun b z => absurd z (none_ex b)
    · exact e0.bs
    · exact e0.bsz
    · exact fun b _ _ => none_ex b
    · exact fun b z => absurd z (none_ex b)
    · exact e0.funs
    · exact e0.frf
  · rfl
  · exact e0.bare
  · exact Un.kept kp
  · refine ⟨_, hns, fun j y w hj hw hv => ?_⟩
    have hj : X.N[j]? = some y := hj
    have hv : Vis scope y := hv
    have other : scope.names.lookup y = some .free → ∃ w', RelV w w' ∧ Look (lamEnv X scope s.heap.objs.size f c') h1 (fun y => [(x, u)].reverse.lookup y) y w' := fun k => by
      have hyx : j ≠ i := fun z => by
        rw [z, hN] at hj
        cases hj
        rw [L.par] at k
        cases k
      rw [List.getElem?_set_ne (fun z => hyx z.symm)] at hw
      obtain ⟨m, _, hl⟩ := I.loc
      have kc := L.free _ (PySem.mem_of_lookup k) rfl
      obtain ⟨w', rw', lk⟩ := hl j y w hj hw (.inr (.inl kc))
      refine ⟨w', rw', .inr ⟨.inr k, ?_⟩⟩
      obtain ⟨d, hd'⟩ := clo_there (X := X) k
      have hd2 := clo_sub L I.ok hd'
      rcases lk with ⟨k', _⟩ | ⟨_, d3, e3, hc⟩
      · rw [show X.env.kindOf y = some .cell from kc] at k'
        cases k'
      · rw [hd2] at e3
        cases e3
        exact ⟨d, hd', cellK hc⟩
    rcases hv with k | k | k
    · have hyx : y = x := L.one _ (PySem.mem_of_lookup k) rfl
      subst hyx
      have hji : j = i := by
        obtain ⟨hj1, hj2⟩ := List.getElem?_eq_some_iff.mp hj
        obtain ⟨hi1, hi2⟩ := List.getElem?_eq_some_iff.mp hN
        rcases Nat.lt_trichotomy j i with z | z | z
        · exact absurd (hj2.trans hi2.symm) (List.pairwise_iff_getElem.mp nd j i hj1 hi1 z)
        · exact z
        · exact absurd (hi2.trans hj2.symm) (List.pairwise_iff_getElem.mp nd i j hi1 hj1 z)
      subst hji
      have hl : j < σ.length := by
        rw [I.len]
        exact (List.getElem?_eq_some_iff.mp hN).1
      rw [List.getElem?_set_self hl] at hw
      cases hw
      refine ⟨u, r, .inl ⟨k, ?_⟩⟩
      show [(y, u)].lookup y = some u
      rw [List.lookup_cons, beq_self_eq_true]
    · exact absurd rfl (L.nocell _ (PySem.mem_of_lookup k))
    · exact other k
  · intro y c e
    obtain ⟨z, hz⟩ := I.cell y c (clo_sub L I.ok e)
    exact ⟨z, cellK hz⟩
  · exact e0.hok.fresh (Nat.le_refl _)
  · exact fun y c e => I.freeC y c (clo_sub L I.ok e)
  · exact fun q hq => absurd (show q ∈ ([] : List (Addr × Obj)) ++ [] from hq) List.not_mem_nil
  · exact e0.hok.kept kp
  · rw [List.length_set]
    exact I.len
/-- the lambda called with one thing, within a builtin -/
theorem lam_call {k i : Nat} {x : Str} {f c' : Addr} {params : Arguments} {body : Expr} {scope : Scope} {pm ctv u : Value} {v : V} {tb : TE} {Q : VK} {E : Value → Shared → Prop} (I : Inv X pins σ H s) (L : LamP X.env.scope scope x)
    (hf : s.heap.get? f = some (PySem.W.kla_obj "<lambda>" (X.env.qual ++ "<lambda>") params body scope (cloFrom X.env.cells scope.names []) pm c' ctv)) (hco : H c' = some (CodeO c' (X.env.qual ++ "<lambda>")))
    (hbind : ∀ v : Value, bindArgs (PySem.W.kla_fn "<lambda>" (X.env.qual ++ "<lambda>") params body scope (cloFrom X.env.cells scope.names []) pm (.ref c') ctv) ⟨[v], []⟩ = pure [(x, v)])
    (hr : Room (k + 2) X.A) (hd : X.A.handled = none) (hbody : ∀ (A : Around) (outer : List Env) (s : Shared) (H : Hp), Room k (A.deeper (lamEnv X scope s.heap.objs.size f c')) → PE (lamCx X A outer s H E0 scope f c').nox body tb)
    (hN : X.N[i]? = some x) (nd : X.N.Nodup) (r : RelV v u) (ht : tb (σ.set i (some v)) H Q) :
    wpAny (model X.prog X.w) X.A.in1 (call (.ref f) [u]) (fun u' s' => ∃ (v' : V) (H' : Hp), Inv X pins σ H' s' ∧ Un (frs X.stack) [] H H' s.heap s'.heap ∧ RelV v' u' ∧ Q v' H') E s := by
  obtain ⟨⟨oc, us, tq, o1, o2, o3⟩, _, _⟩ := I.hok c' _ hco
  have hr1 : Room (k + 1) X.A.in1 := hr.in1
  refine wpAny_call (PySem.W.kla_callFunE hr1.depth hf rfl L.co L.gen rfl ⟨c', oc, us, tq, rfl, o1, o2, o3⟩ ?_)
  rw [hbind]
  refine wpAny_pure (wpAny_newFunctionEnv L.nocell (fun z hz => by rw [List.mem_singleton.mp hz]; exact L.par) (fun h1 hns hsb => ⟨I.nolimit.fresh _ hsb, ?_⟩) L.kind)
  have kp : ∀ b o, s.heap.get? b = some o → h1.get? b = some o := fun b o e => hsb.extBut b o (Nat.ne_of_lt (Heap.lt_size e)) (Heap.get?_push_of_some _ e)
  have e0 : Env0 X.prog X.w X.K X.mg X.base X.A.in1 X.stack s H := I.env0.in1
  have J := lam_in (E := E0) (f := f) (c' := c') (tk := s.toks + ([(x, u)] : List (Str × Value)).length) I L e0 hd hns kp hN nd r
  refine PySem.W.kla_codeExpr (wpAny_mono ((hbody _ _ s H (hr1.deeper _)).run [] _ _ H Q (J.wish _) ht) (fun v' s' hq => ?_) fun e s' hq => hq.elim)
  obtain ⟨w', H', J', rv, q⟩ := hq
  have J2 := J'.unwish
  exact ⟨w', H', I.call' J2.os J2.base J2.hok J2.bare (fun b z => absurd z List.not_mem_nil), J2.base, rv, q⟩
end
/-- the first of the greatest -/
def FirstMost (kf : Nat → Int) (n j : Nat) : Prop := Cl.FirstLeast (fun i => -kf i) n j
theorem most_is (kf : Nat → Int) (n : Nat) : FirstMost kf (n + 1) (argBest (fun i j => decide (kf i > kf j)) n) := by
  have e : (fun i j => decide (kf i > kf j)) = fun i j => decide (-kf i < -kf j) := by
    funext i j
    exact decide_eq_decide.mpr ⟨fun z => by omega, fun z => by omega⟩
  rw [e]
  exact Cl.best_is _ n
open Zm (SqM hSq hIt nIt oIt newM sq_get)
theorem sqM_ext {K : PySem.W.Frag} {t : Bool} {H H' : Hp} {a : Addr} {xs : List V} (e : ExtN H H') (h : SqM K t H a xs) : SqM K t H' a xs := by
  cases t
  · exact e.sqL h
  · exact e.sqT h
section
variable {prog : Program} {w : World} {A : Around}
/-- the library's walk, told of the values' readings -/
theorem walkM (hh : A.handled = none) (t : Bool) (it a : Addr) (hne : a ≠ it) (xs : List V) :
    WalksS prog w A it [it, a] [it] (fun a b => b = a) xs.length (fun i v => ∃ y, xs[i]? = some y ∧ RelV y v) (fun i s => hIt t s.heap it a i ∧ ∃ its : List Value, Vals xs its ∧ hSq t s.heap a its.toArray) := by
  have base : ∀ its : List Value, WalksS prog w A it [it, a] [it] (fun a b => b = a) its.toArray.size (fun i v => its.toArray[i]? = some v) (fun i s => hIt t s.heap it a i ∧ hSq t s.heap a its.toArray) := fun its => by
    cases t
    · exact (Walks.list (A := A) hh it a hne its.toArray).toS
    · exact (Walks.tuple (A := A) hh it a hne its.toArray).toS
  have size : ∀ {its : List Value}, Vals xs its → its.toArray.size = xs.length := fun r => by
    rw [List.size_toArray]
    exact r.length.symm
  constructor
  · exact (base []).sub
  · exact (base []).grefl
  · exact (base []).gtrans
  · rintro i s h' tk ⟨st, its, r, p⟩ le k
    obtain ⟨a1, a2⟩ := (base its).frame i s h' tk ⟨st, p⟩ le k
    exact ⟨a1, its, r, a2⟩
  · rintro i s Q E hi ⟨st, its, r, p⟩ hQ
    refine (base its).item i s Q E (by rw [size r]; exact hi) ⟨st, p⟩ fun v s' hv st' m => hQ v s' ?_ ⟨st'.1, its, r, st'.2⟩ m
    obtain ⟨v', e1, rr⟩ := r.get (List.getElem?_eq_getElem hi)
    have hv : its[i]? = some v := by simpa using hv
    rw [hv] at e1
    cases e1
    exact ⟨_, List.getElem?_eq_getElem hi, rr⟩
  · rintro s Q E ⟨st, its, r, p⟩ hQ
    exact (base its).done s Q E ⟨by rw [size r]; exact st, p⟩ hQ
  · rintro i s Q E ⟨st, its, r, p⟩ hQ
    exact (base its).self i s Q E ⟨st, p⟩ hQ
end
/-- what the key is asked of, and what comes of it -/
def tBestLam (K : PySem.W.Frag) (best : (Nat → Int) → Nat → Nat → Prop) (t : Bool) (T : List (Addr × Str)) (i : Nat) (te tb : TE) : TE := fun σ H Q => te σ H fun v H1 => ∃ (a : Addr) (xs : List V) (kf : Nat → Int), v = .ref a ∧ SqM K t H1 a xs ∧ 0 < xs.length ∧ Tabs T H1 ∧
  ∀ (H2 : Hp), ExtN H1 H2 → Tabs T H2 →
    (∀ (j : Nat) (y : V) (H' : Hp), xs[j]? = some y → ExtN H2 H' → Tabs T H' → tb (σ.set i (some y)) H' fun k H'' => k = .int (kf j) ∧ ExtN H' H'' ∧ Tabs T H'') ∧
    ∀ (j : Nat) (y : V) (H' : Hp), best kf xs.length j → xs[j]? = some y → ExtN H2 H' → Tabs T H' → Q y H'
section
variable {X : Cx}
/-- the loop's state between two keys, and one key -/
structure KeySt (X : Cx) (pins : List (Addr × Obj)) (σ : L2.St) (t : Bool) (T : List (Addr × Str)) (H2 : Hp) (a f c' it S : Addr) (xs : List V) (lo : Obj) (s' : Shared) (H' : Hp) : Prop where
  inv : Inv X pins σ H' s'
  ext : ExtN H2 H'
  tab : Tabs T H'
  sq : SqM X.K t H' a xs
  lam : s'.heap.get? f = some lo
  nf : H' f = none
  fS : FpOk X pins H' S
  fI : FpOk X pins H' it
variable {pins : List (Addr × Obj)} {σ : L2.St} {t : Bool} {T : List (Addr × Str)} {H2 : Hp} {a f c' it S : Addr} {xs : List V} {lo : Obj}
theorem KeySt.moved {s4 s5 : Shared} {H' : Hp} (k : KeySt X pins σ t T H2 a f c' it S xs lo s4 H') (hS : f ≠ S) (hI : f ≠ it) (m : Moved [S, it] (fun a b => b = a) s4 s5) : KeySt X pins σ t T H2 a f c' it S xs lo s5 H' := by
  have e5 : s5 = { s4 with heap := s5.heap, toks := s5.toks } := by
    obtain ⟨hp, g, d, tk, os⟩ := s5
    have h1 : g = s4.gens := m.gens
    have h2 : d = s4.drawn := m.drawn
    have h3 : os = s4.os := m.os
    subst h1 h2 h3
    rfl
  refine ⟨?_, k.ext, k.tab, k.sq, m.heap _ _ (fun hm => ?_) k.lam, k.nf, k.fS, k.fI⟩
  · rw [e5]
    exact k.inv.turnedL (ch := [S, it]) (fun c o hc ho => m.heap c o hc ho) (fun b hb => by
      rcases List.mem_cons.mp hb with z | hb
      · rw [z]; exact k.fS
      · rw [List.mem_singleton.mp hb]; exact k.fI)
  · rcases List.mem_cons.mp hm with z | hm
    · exact hS z
    · exact hI (List.mem_singleton.mp hm)
theorem FpOk.through {b : Addr} {ob : Obj} {s4 s5 : Shared} {H' H'' : Hp} (I : Inv X pins σ H' s4) (un : Un (frs X.stack) [] H' H'' s4.heap s5.heap) (hb : s4.heap.get? b = some ob) (fp : FpOk X pins H' b) : FpOk X pins H'' b ∧ s5.heap.get? b = some ob := by
  refine ⟨⟨un.free b ob hb fp.1 List.not_mem_nil, fp.2⟩, un.keep b ob hb fp.1 (fun z => ?_) List.not_mem_nil⟩
  rcases List.mem_cons.mp (I.stkSub _ z) with w | w
  · exact fp.2.1 w
  · exact fp.2.2.1 w
/-- both builtins, behind the making of the lambda -/
theorem best_run {k i : Nat} {x : Str} {params : Arguments} {body : Expr} {scope : Scope} {pm ctv : Value} {kf : Nat → Int} {tb : TE} {s2 : Shared} {Q : VK} (w : Bool) (I2 : Inv X pins σ H2 s2) (hr : Room (k + 2) X.A) (hh : X.A.handled = none)
    (L : LamP X.env.scope scope x) (hN : X.N[i]? = some x) (nd : X.N.Nodup) (hsq : SqM X.K t H2 a xs) (hne : 0 < xs.length) (T2 : Tabs T H2)
    (hf : s2.heap.get? f = some (PySem.W.kla_obj "<lambda>" (X.env.qual ++ "<lambda>") params body scope (cloFrom X.env.cells scope.names []) pm c' ctv)) (hfn : H2 f = none) (hff : f ∉ frs X.stack) (hco : H2 c' = some (CodeO c' (X.env.qual ++ "<lambda>")))
    (hbind : ∀ (q : Str) (cl : List (Str × Addr)) (pm cv ctv v : Value), bindArgs (PySem.W.kla_fn "<lambda>" q params body scope cl pm cv ctv) ⟨[v], []⟩ = pure [(x, v)])
    (hbody : ∀ (A : Around) (outer : List Env) (s : Shared) (H : Hp) (f c' : Addr), Room k (A.deeper (lamEnv X scope s.heap.objs.size f c')) → PE (lamCx X A outer s H E0 scope f c').nox body tb)
    (qk : ∀ (j : Nat) (y : V) (H' : Hp), xs[j]? = some y → ExtN H2 H' → Tabs T H' → tb (σ.set i (some y)) H' fun k H'' => k = .int (kf j) ∧ ExtN H' H'' ∧ Tabs T H'')
    (qf : ∀ (j : Nat) (y : V) (H' : Hp), (if w = true then FirstMost kf xs.length j else Cl.FirstLeast kf xs.length j) → xs[j]? = some y → ExtN H2 H' → Tabs T H' → Q y H') :
    wpAny (model X.prog X.w) X.A (call (.builtin (if w = true then "max" else "min")) [.ref a] [(Str.ofString "key", .ref f)]) (EP X pins σ Q) X.xe s2 := by
  obtain ⟨its, rv0, p0⟩ := sq_get I2 hsq
  have hnI := I2.hok.fresh (Nat.le_refl s2.heap.objs.size)
  have flt : f < s2.heap.objs.size := Heap.lt_size hf
  have alt := Zm.hSq_lt p0
  -- what is the same for both
  have core : ∀ (bt : Nat → Nat → Bool) (op : CmpOp), (∀ i j ki kj (s : Shared) (Q : Value → Shared → Prop) (E : Value → Shared → Prop), (∃ t, ki = .int (kf i) t) → (∃ t, kj = .int (kf j) t) → Q (.bool (bt i j)) s → wpAny (model X.prog X.w) X.A.in1 (richCompare op ki kj) Q E s) →
      (∀ j y H', j = argBest bt (xs.length - 1) → xs[j]? = some y → ExtN H2 H' → Tabs T H' → Q y H') →
      wpAny (model X.prog X.w) X.A.in1 (pyIter (.ref a)) (fun it s₂ => ∃ I fp wr G n P St J V bt, it = .ref I ∧ WalksS X.prog X.w X.A.in1 I fp wr G n P St ∧ St 0 s₂ ∧ (∀ b ∈ fp, b < s₂.heap.objs.size) ∧ 0 < n ∧
        KeyRun X.prog X.w X.A.in1 (.ref f) op s₂.heap.objs.size wr G n P St J V bt ∧ J s₂ ∧ ∀ v s', P (argBest bt (n - 1)) v → J s' → EP X pins σ Q v s') X.xe s2 := fun bt op hcmp hend => by
    refine newM p0 ?_
    have szp : (s2.heap.push (oIt t a)).objs.size = s2.heap.objs.size + 1 := Heap.size_push ..
    have ltp : s2.heap.objs.size < (s2.heap.push (oIt t a)).objs.size := by rw [szp]; exact Nat.lt_succ_self _
    have fpI : FpOk X pins H2 s2.heap.objs.size := I2.fpOk (Nat.le_refl _) hnI
    have fpS : FpOk X pins H2 (s2.heap.push (oIt t a)).objs.size := I2.fpOk (Nat.le_of_lt ltp) (I2.hok.fresh (Nat.le_of_lt ltp))
    have hfI : f ≠ s2.heap.objs.size := fun z => by rw [z] at flt; exact Nat.lt_irrefl _ flt
    have hfS : f ≠ (s2.heap.push (oIt t a)).objs.size := fun z => by
      rw [z] at flt
      exact Nat.lt_irrefl _ (Nat.lt_trans flt ltp)
    refine ⟨s2.heap.objs.size, _, _, _, xs.length, _, _, fun s' => ∃ H', KeySt X pins σ t T H2 a f c' s2.heap.objs.size (s2.heap.push (oIt t a)).objs.size xs (PySem.W.kla_obj "<lambda>" (X.env.qual ++ "<lambda>") params body scope (cloFrom X.env.cells scope.names []) pm c' ctv) s' H',
      fun i k _ => ∃ t, k = .int (kf i) t, bt, rfl, walkM (prog := X.prog) (w := X.w) (A := X.A.in1) hh t s2.heap.objs.size a (Nat.ne_of_lt alt) xs, ⟨Zm.hIt_young (Heap.get?_push_size _ (by cases t <;> rfl)), its, rv0, Zm.hSq_up p0 fun o e => Heap.get?_push_of_some _ e⟩, fun b hb => ?_, hne, ⟨?_, ?_, ?_, ?_⟩, ?_, ?_⟩
    · show b < (s2.heap.push (oIt t a)).objs.size
      rcases List.mem_cons.mp hb with z | hb
      · rw [z]; exact ltp
      · rw [List.mem_singleton.mp hb]; exact Nat.lt_trans alt ltp
    · rintro s4 s5 ⟨H', k'⟩ m
      exact ⟨H', k'.moved hfS hfI m⟩
    · exact fun i k s1 s' v _ => v
    · rintro j v s4 o Q' E' hj ⟨y, hy, ry⟩ ⟨H', k'⟩ ⟨stI, its', rv', stL⟩ hS cont
      have hco' : H' c' = some (CodeO c' (X.env.qual ++ "<lambda>")) := k'.ext _ _ hco codeO_ne
      refine wpAny_mono (lam_call (Q := fun k H'' => k = .int (kf j) ∧ ExtN H' H'' ∧ Tabs T H'') k'.inv L k'.lam hco' (fun v => hbind _ _ _ _ _ v) hr hh (fun A outer s H hr2 => hbody A outer s H f c' hr2) hN nd ry (qk j y H' hy k'.ext k'.tab)) (fun u' s5 hq => ?_) fun _ _ z => z
      obtain ⟨v', H'', I'', un, rv2, ek, sm, tb2⟩ := hq
      subst ek
      obtain ⟨tk, rfl⟩ := rv2
      obtain ⟨oi, hoi, _⟩ := Zm.hIt_there stI
      obtain ⟨g1, g2⟩ := FpOk.through k'.inv un hS k'.fS
      obtain ⟨g3, g4⟩ := FpOk.through k'.inv un hoi k'.fI
      have sq2 := sqM_ext sm k'.sq
      obtain ⟨its2, rw2, p2⟩ := sq_get I'' sq2
      exact cont _ s5 ⟨H'', I'', k'.ext.trans sm, tb2, sq2, un.keep _ _ k'.lam k'.nf hff List.not_mem_nil, un.free _ _ k'.lam k'.nf List.not_mem_nil, g1, g3⟩ ⟨Zm.hIt_at stI fun o ho => by rw [hoi] at ho; cases ho; exact g4, its2, rw2, p2⟩ g2 ⟨tk, rfl⟩ fun _ _ z => z
    · intro i j ki kj s4 Q' E' _ vi vj q'
      exact hcmp i j ki kj s4 Q' E' vi vj q'
    · exact ⟨H2, I2.kept (t' := s2.toks) fun b o e => Heap.get?_push_of_some _ e, ExtN.refl _, T2, hsq, Heap.get?_push_of_some _ hf, hfn, fpS, fpI⟩
    · rintro v s5 ⟨y, hy, ry⟩ ⟨H', k'⟩
      exact ⟨y, H', k'.inv, ry, hend _ y H' rfl hy k'.ext k'.tab⟩
  obtain ⟨n, en⟩ : ∃ n, xs.length = n + 1 := ⟨xs.length - 1, by omega⟩
  cases w
  · refine call_min_walkK (core (fun i j => decide (kf i < kf j)) .Lt (fun i j ki kj s Q' E' vi vj q' => CmpOf.ints_lt (prog := X.prog) (w := X.w) (A := X.A.in1) (P := fun i v => ∃ t, v = .int (kf i) t) kf (fun i v h => h) i j ki kj s Q' E' vi vj q') fun j y H' hj hy e tt => qf j y H' ?_ hy e tt)
    rw [if_neg Bool.false_ne_true, hj, en]
    exact Cl.best_is kf n
  · refine call_max_walkK (core (fun i j => decide (kf i > kf j)) .Gt (fun i j ki kj s Q' E' vi vj q' => CmpOf.ints_gt (prog := X.prog) (w := X.w) (A := X.A.in1) (P := fun i v => ∃ t, v = .int (kf i) t) kf (fun i v h => h) i j ki kj s Q' E' vi vj q') fun j y H' hj hy e tt => qf j y H' ?_ hy e tt)
    rw [if_pos rfl, hj, en]
    exact most_is kf n
variable {c P : Addr} {k i : Nat} {p lpos kpos pos : Pos} {e body : Expr} {te tb : TE} {x : Str} {params : Arguments} {scope : Scope}
/-- max(e, key=lambda x: body); t: e is a tuple -/
theorem pe_maxlam (t : Bool) (hg : Gl X "max") (hm : X.mg "max" = none) (he : PE X e te) (hr : Room (k + 2) X.A) (hh : X.A.handled = none) (TB : TabB X.base X.mg c P) (hcode : X.env.code = .ref c) (hmT : (P, X.env.qual ++ "<lambda>") ∈ T)
    (hu : ∀ q ∈ T, q.1 = P → q.2 = X.env.qual ++ "<lambda>") (L : LamP X.env.scope scope x) (hN : X.N[i]? = some x) (nd : X.N.Nodup) (hdef : defaultsOf params X.env = ([], []))
    (hbind : ∀ (q : Str) (cl : List (Str × Addr)) (pm cv ctv v : Value), bindArgs (PySem.W.kla_fn "<lambda>" q params body scope cl pm cv ctv) ⟨[v], []⟩ = pure [(x, v)])
    (hbody : ∀ (A : Around) (outer : List Env) (s : Shared) (H : Hp) (f c' : Addr), Room k (A.deeper (lamEnv X scope s.heap.objs.size f c')) → PE (lamCx X A outer s H E0 scope f c').nox body tb)
    (hs : starEach [e] X.env = (false, eval e X.env) :: starEach [] X.env := by rfl) :
    PE X (.Call (.Name "max" p) [e] [⟨some "key", .Lambda params body scope lpos, kpos⟩] pos) (tBestLam X.K FirstMost t T i te tb) := by
  refine ⟨fun pins s σ H Q I h => ?_⟩
  refine wpAny_Call_Name_kw (ld_blt I hg hm (u := .builtin "max") (by decide +kernel) ?_)
  refine PyProof.Rows.callWith_kw ?_ (by rw [hs]; rfl) (by rw [hs]; rfl) (by rfl) (by rfl)
  rw [hs]
  show wpAny _ _ (spliced ((false, eval e X.env) :: backTo pos (starEach [] X.env))) _ _ s
  refine Calls.spliced_cons (thn (he.run pins s σ H _ I h) fun u s1 ⟨v, H1, I1, r1, a, xs, kf, ev, hl, hne, hT, q⟩ => Calls.spliced_nil ?_)
  subst ev
  obtain rfl : u = Value.ref a := r1
  show wpAny _ _ (evalAll ((do let v ← eval (.Lambda params body scope lpos) X.env; standAt pos; pure v) :: [])) _ _ s1
  refine wpAny_evalAll_cons (wpAny_bind (lam_make2 I1 TB hcode hmT hu hT hdef (L.has I1.ok) fun f c' pm ctv H2 s2 I2 eN T2 hf hfn hff hco => wpAny_bind (wpAny_standAt (wpAny_pure (wpAny_evalAll_nil ?_)))))
  obtain ⟨qk, qf⟩ := q H2 eN T2
  exact best_run (w := true) (kf := kf) I2 hr hh L hN nd (sqM_ext eN hl) hne T2 hf hfn hff hco hbind hbody qk fun j y H' h => qf j y H' h
/-- min(e, key=lambda x: body) -/
theorem pe_minlam (t : Bool) (hg : Gl X "min") (hm : X.mg "min" = none) (he : PE X e te) (hr : Room (k + 2) X.A) (hh : X.A.handled = none) (TB : TabB X.base X.mg c P) (hcode : X.env.code = .ref c) (hmT : (P, X.env.qual ++ "<lambda>") ∈ T)
    (hu : ∀ q ∈ T, q.1 = P → q.2 = X.env.qual ++ "<lambda>") (L : LamP X.env.scope scope x) (hN : X.N[i]? = some x) (nd : X.N.Nodup) (hdef : defaultsOf params X.env = ([], []))
    (hbind : ∀ (q : Str) (cl : List (Str × Addr)) (pm cv ctv v : Value), bindArgs (PySem.W.kla_fn "<lambda>" q params body scope cl pm cv ctv) ⟨[v], []⟩ = pure [(x, v)])
    (hbody : ∀ (A : Around) (outer : List Env) (s : Shared) (H : Hp) (f c' : Addr), Room k (A.deeper (lamEnv X scope s.heap.objs.size f c')) → PE (lamCx X A outer s H E0 scope f c').nox body tb)
    (hs : starEach [e] X.env = (false, eval e X.env) :: starEach [] X.env := by rfl) :
    PE X (.Call (.Name "min" p) [e] [⟨some "key", .Lambda params body scope lpos, kpos⟩] pos) (tBestLam X.K Cl.FirstLeast t T i te tb) := by
  refine ⟨fun pins s σ H Q I h => ?_⟩
  refine wpAny_Call_Name_kw (ld_blt I hg hm (u := .builtin "min") (by decide +kernel) ?_)
  refine PyProof.Rows.callWith_kw ?_ (by rw [hs]; rfl) (by rw [hs]; rfl) (by rfl) (by rfl)
  rw [hs]
  show wpAny _ _ (spliced ((false, eval e X.env) :: backTo pos (starEach [] X.env))) _ _ s
  refine Calls.spliced_cons (thn (he.run pins s σ H _ I h) fun u s1 ⟨v, H1, I1, r1, a, xs, kf, ev, hl, hne, hT, q⟩ => Calls.spliced_nil ?_)
  subst ev
  obtain rfl : u = Value.ref a := r1
  show wpAny _ _ (evalAll ((do let v ← eval (.Lambda params body scope lpos) X.env; standAt pos; pure v) :: [])) _ _ s1
  refine wpAny_evalAll_cons (wpAny_bind (lam_make2 I1 TB hcode hmT hu hT hdef (L.has I1.ok) fun f c' pm ctv H2 s2 I2 eN T2 hf hfn hff hco => wpAny_bind (wpAny_standAt (wpAny_pure (wpAny_evalAll_nil ?_)))))
  obtain ⟨qk, qf⟩ := q H2 eN T2
  exact best_run (w := false) (kf := kf) I2 hr hh L hN nd (sqM_ext eN hl) hne T2 hf hfn hff hco hbind hbody qk fun j y H' h => qf j y H' h
end
end Lm

set_option Elab.async false
set_option linter.all false
set_option maxRecDepth 100000
set_option maxHeartbeats 1000000
/-! own rules: == and != of two dicts whose values are ints, equal or not -/
namespace Dq
open PySem PySem.Spec PyProof.Rows L2
abbrev KVs : Type := List (Key × V)
def eqDB (ks ls : List (Key × V)) : Bool := decide (ks.length = ls.length) && ks.all fun p => decide (valV ls p.1 = some p.2)
def IntVs (ks : List (Key × V)) : Prop := ∀ p ∈ ks, ∃ i : Int, p.2 = .int i
theorem valV_mem {kvs : List (Key × V)} {k : Key} {v : V} (h : valV kvs k = some v) : (k, v) ∈ kvs := by
  unfold valV at h
  obtain ⟨p, hp, rfl⟩ := Option.map_eq_some_iff.mp h
  have e := List.find?_some hp
  rw [show k = p.1 from (of_decide_eq_true e).symm]
  exact List.mem_of_find?_eq_some hp
section
variable {A : Around} {s : Shared} {ls : List (Key × V)} {vb : List (Key × Value)}
theorem hits_ints (rb : KV ls vb) (hl : IntVs ls) : ∀ {ks : List (Key × V)} {va : List (Key × Value)}, KV ks va → IntVs ks → PySem.W.KeqHits A s vb va (ks.all fun p => decide (valV ls p.1 = some p.2)) := by
  intro ks va ra
  unfold KV at ra
  induction ra with
  | nil => exact fun _ => .nil
  | @cons p q ps qs h t ih =>
    intro hk
    obtain ⟨h1, h2⟩ := h
    have h1 : p.1 = q.1 := h1
    obtain ⟨i, ei⟩ := hk p List.mem_cons_self
    have tail := ih fun z hz => hk z (List.mem_cons_of_mem _ hz)
    have rr := rb.val p.1
    rw [List.all_cons]
    cases e : valV ls p.1 with
    | none =>
      rw [e] at rr
      have hn : valueAt vb q.1 = none := by
        rw [← h1]
        cases z : valueAt vb p.1 with
        | none => rfl
        | some y => rw [z] at rr; exact rr.elim
      rw [decide_eq_false (fun z => nomatch z), Bool.false_and]
      exact .miss (v := q.2) hn
    | some u =>
      obtain ⟨j, ej⟩ := hl _ (valV_mem e)
      have ej : u = .int j := ej
      subst ej
      rw [e] at rr
      obtain ⟨y, hy, ry⟩ := rr.some_of
      rw [h1] at hy
      obtain ⟨t1, rfl⟩ := ry
      rw [ei] at h2 ⊢
      obtain ⟨t2, e2⟩ := h2
      obtain ⟨k, v⟩ := q
      have e2 : v = .int i t2 := e2
      subst e2
      rw [show decide (some (V.int j) = some (V.int i)) = (i == j) from by
        rw [Bool.eq_iff_iff, decide_eq_true_eq, beq_iff_eq]
        exact ⟨fun z => by injection z with z; injection z with z; exact z.symm, fun z => by rw [z]⟩]
      exact .hit hy (SeqAt.EqAt.int_int _ _ _ _) tail
end
def rEqDI : R2 := fun x y H Q => ∃ (a b : Addr) (ks ls : List (Key × V)), x = .ref a ∧ y = .ref b ∧ H a = some (.dK ks) ∧ H b = some (.dK ls) ∧ IntVs ks ∧ IntVs ls ∧ Q (.bl (eqDB ks ls)) H
def rNeDI : R2 := fun x y H Q => ∃ (a b : Addr) (ks ls : List (Key × V)), x = .ref a ∧ y = .ref b ∧ H a = some (.dK ks) ∧ H b = some (.dK ls) ∧ IntVs ks ∧ IntVs ls ∧ Q (.bl (!eqDB ks ls)) H
section
variable {X : Cx}
theorem len_dec {α β : Type} (xs : List α) (ys : List β) : (xs.length == ys.length) = decide (xs.length = ys.length) := by
  rw [Bool.eq_iff_iff, beq_iff_eq, decide_eq_true_eq]
theorem op_eqDI (hu : X.A.units < cLine) : OpR X (compareOp .Eq) rEqDI := by
  rintro pins s σ H x y v u Q I rx ry ⟨a, b, ks, ls, rfl, rfl, ea, eb, ia, ib, q⟩
  cases rx
  cases ry
  obtain ⟨_, ya, va, ra, da⟩ := dk_of I.hok ea
  obtain ⟨_, yb, vb, rb, db⟩ := dk_of I.hok eb
  refine PySem.W.keq_eq (knd := mixKind X.prog X.w) ya yb da db hu (fun _ => hits_ints rb ib ra ia) (fin_bl I q ?_)
  unfold eqDB
  rw [len_dec, ra.length, rb.length]
theorem op_neDI (hu : X.A.units < cLine) : OpR X (compareOp .NotEq) rNeDI := by
  rintro pins s σ H x y v u Q I rx ry ⟨a, b, ks, ls, rfl, rfl, ea, eb, ia, ib, q⟩
  cases rx
  cases ry
  obtain ⟨_, ya, va, ra, da⟩ := dk_of I.hok ea
  obtain ⟨_, yb, vb, rb, db⟩ := dk_of I.hok eb
  refine PySem.W.keq_ne (knd := mixKind X.prog X.w) ya yb da db hu (fun _ => hits_ints rb ib ra ia) (fin_bl I q ?_)
  unfold eqDB
  rw [len_dec, ra.length, rb.length]
/-- the same, as a part of something -/
def DDI : Eqv := fun x y H => ∃ (a b : Addr) (ks ls : List (Key × V)), x = .ref a ∧ y = .ref b ∧ H a = some (.dK ks) ∧ H b = some (.dK ls) ∧ IntVs ks ∧ IntVs ls ∧ eqDB ks ls = true
theorem mon_dI : Mon DDI := fun x y H H' e ⟨a, b, ks, ls, h1, h2, h3, h4, r⟩ => ⟨a, b, ks, ls, h1, h2, e _ _ h3, e _ _ h4, r⟩
theorem rcG_dI : RcG X 1 DDI := by
  rintro A pins s σ H x y u v sb I rx ry ⟨a, b, ks, ls, rfl, rfl, ea, eb, ia, ib, q⟩
  cases rx
  cases ry
  obtain ⟨_, ya, va, ra, da⟩ := dk_of I.hok ea
  obtain ⟨_, yb, vb, rb, db⟩ := dk_of I.hok eb
  have key := PySem.W.keq_eq (prog := X.prog) (w := X.w) (A := A) (E := X.xe) (Q := fun r s' => r = .bool true ∧ ∃ H', Inv X pins σ H' s' ∧ Ext H H') (knd := mixKind X.prog X.w) ya yb da db sb.room.units0 (fun _ => hits_ints rb ib ra ia)
  refine key ⟨?_, H, I, Ext.rfl'⟩
  unfold eqDB at q
  rw [len_dec, ← ra.length, ← rb.length, q]
theorem eqG_dI : EqG X 1 DDI := rcG_dI.eqG fun _ _ _ d => let ⟨a, b, _, _, hx, hy, _⟩ := d; ⟨a, b, hx, hy⟩
theorem eqDB_same {ks : List (Key × V)} (nd : ∀ p ∈ ks, valV ks p.1 = some p.2) : eqDB ks ks = true := by
  unfold eqDB
  rw [decide_eq_true rfl, Bool.true_and]
  exact List.all_eq_true.mpr fun p hp => decide_eq_true (nd p hp)
end
end Dq

set_option Elab.async false
set_option linter.all false
set_option maxRecDepth 100000
set_option maxHeartbeats 1000000
/-! list(o.values()), a dict with int values -/
namespace L2
open PySem PySem.Spec PyProof.Rows
section
variable {X : Cx}
def tListVals (td : TE) : TE := fun σ H Q => td σ H fun x H1 => ∃ (a : Addr) (kvs : List (Key × V)), x = V.ref a ∧ H1 a = some (.dK kvs) ∧ ∀ p, H1 p = none → Q (.ref p) (upd H1 p (.lst (kvs.map (·.2))))
variable {o : Expr} {p pos apos mpos : Pos} {td : TE}
theorem pe_listVals (hc : X.calm = true) (hg : Gl X "list") (hm : X.mg "list" = none) (hd : PE X o td) (hbase : attributeBase o "values" X.env (eval o X.env) = eval o X.env := by rfl) (hline : (apos.endLine == mpos.line) = true := by rfl)
    (hse : starEach [Expr.Call (.Attribute o "values" apos) [] [] mpos] X.env = [(false, eval (Expr.Call (.Attribute o "values" apos) [] [] mpos) X.env)] := by rfl) :
    PE X (.Call (.Name "list" p) [.Call (.Attribute o "values" apos) [] [] mpos] [] pos) (tListVals td) := by
  refine ⟨fun pins s σ H Q I h => ?_⟩
  refine wpAny_Call_Name_kw (ld_blt I hg hm (u := .type "list") (by first | rfl | decide +kernel) ?_ (by first | decide +kernel | decide) (by first | decide +kernel | decide))
  rw [hse]
  refine PySem.callWith_type1 (wpAny_Call_method0_late hbase hline (thn (hd.run pins s σ H _ I h) fun v s1 ⟨x, H1, I1, r1, a, kvs, ex, ha, q⟩ => ?_))
  subst ex
  obtain rfl : v = Value.ref a := r1
  obtain ⟨z, hsys, vs, rel, dof⟩ := dk_of I1.hok ha
  obtain ⟨ep, dat⟩ := dof.dictAt
  have dat' := dat
  obtain ⟨ob, es, ho, ex, hdat, hko, hpr, hnd⟩ := dat'
  refine ⟨"dict", "dict.values", F.plainAttrs_dict, F.slot_dict_values, F.type_dict_values, ⟨ob, ho, ex.1⟩, fun b e => ?_, Calls.callWith_builtin rfl (PySem.evalArgs_none ?_)⟩
  · cases e
    exact ⟨ob, ho, ex.2.1⟩
  refine call_meetsIn F.slot_dict_values ⟨ob, ho, ex.1⟩ F.entry_dict_values (F.args_dict_values_1 _) (meets_dict_values (mixKind X.prog X.w) a hsys) ⟨⟨vs, dof⟩, ?_⟩
  have k1 : ∀ b u, s1.heap.get? b = some u → (s1.heap.push { cls := .type "dict_values", data := .fields #[.ref a] }).get? b = some u := fun b u e => Heap.get?_push_of_some _ e
  have I2 : Inv X pins σ H1 { s1 with heap := s1.heap.push { cls := .type "dict_values", data := .fields #[.ref a] } } := I1.kept (t' := s1.toks) k1
  have hl : kvs.length = vs.length := rel.length
  refine PySem.W.kdl_call (PySem.W.kdl_values (knd := mixKind X.prog X.w) (kvs := vs) (ep := ep)) (I1.ok.hd hc) ⟨⟨_, Heap.get?_push_size _ rfl, rfl, rfl⟩, dat.keep k1⟩ (by rw [← hl]; exact z) fun h' tk acc c' hk hD hacc => ?_
  have I3 := I2.laid (a := (s1.heap.push { cls := .type "dict_values", data := .fields #[.ref a] }).objs.size) (o := .lst (kvs.map (·.2))) (t' := tk) hk (Nat.le_refl _) ?_
  · exact ⟨.ref _, _, I3, rfl, q _ (I2.hok.fresh (Nat.le_refl _))⟩
  · refine ⟨by rw [List.length_map]; exact z, acc.toList, c', ?_, by rw [Array.toArray_toList]; exact hD⟩
    refine vals_of_at (by
      have e : acc.toList.length = acc.size := Array.length_toList
      rw [List.length_map, e, hacc.1, hl]) fun j x w h1 h2 => ?_
    obtain ⟨k, hi⟩ := hacc.2 j w (by rw [← Array.getElem?_toList]; exact h2)
    obtain ⟨y, h3, h4⟩ := KV.at' rel hi
    rw [List.getElem?_map, h3] at h1
    cases h1
    exact h4
end
end L2

set_option Elab.async false
set_option linter.all false
set_option maxRecDepth 100000
set_option maxHeartbeats 4000000
/-! xs[i] += e, xs a list, i from 0 on: the read -/
namespace Ga
open PySem PySem.Spec PyProof.Rows PySem.W L2
theorem get_list {X : Cx} : PGet X (fun x y H Q => ∃ p xs i v, x = .ref p ∧ y = .int i ∧ 0 ≤ i ∧ SqL X.K H p xs ∧ xs[i.toNat]? = some v ∧ Q v H) := by
  intro pins s σ H o i ov iv Q I ro ri h
  obtain ⟨p, xs, i, z, rfl, rfl, h0, hq, h2, q⟩ := h
  cases ro
  obtain ⟨t, rfl⟩ := ri
  obtain ⟨its, r, pl, hz⟩ := I.list hq
  obtain ⟨w, ew, rw'⟩ := r.get h2
  have hl := r.length
  have hn := line63
  have hlt : i.toNat < xs.length := by
    rcases Nat.lt_or_ge i.toNat xs.length with g | g
    · exact g
    · rw [List.getElem?_eq_none g] at h2; cases h2
  exact wpAny_getItem_list pl.isList h0 (by omega) (by simpa using ew) ⟨z, H, I, rw', q⟩
end Ga
namespace Ga
open PySem PySem.Spec PyProof.Rows PySem.W L2
/-- x *= e, ints, one of them small -/
theorem ip_mul {X : Cx} : PIp X .Mult (fun x y H Q => ∃ i j, x = .int i ∧ y = .int j ∧ CMul i j ∧ Q (.int (i * j)) H) := by
  intro pins s σ H x y v u Q I r1 r2 h
  obtain ⟨i, j, e1, e2, hc, q⟩ := h
  subst e1; subst e2
  obtain ⟨t, rfl⟩ := r1
  obtain ⟨t', rfl⟩ := r2
  exact imul_int ⟨.int _, H, I.tok _, ⟨_, rfl⟩, q⟩ hc.ok
end Ga

set_option Elab.async false
set_option linter.all false
set_option maxRecDepth 100000
set_option maxHeartbeats 2000000
/-! sorted(d), d a dict with whole numbers as keys -/
namespace Sd
open PySem PySem.Spec PyProof.Rows L2
section
variable {prog : Program} {w : World} {A : Around} {E : Value → Shared → Prop} {s : Shared} {T : String} {r d : Addr} {n : Nat} {P : Nat → Value → Prop} {OK : Heap → Prop}
/-- what a source of values gives, gathered -/
theorem gather_src {Q : List Value → Shared → Prop} (K : PySem.W.KdlSrc prog w T r d n P OK) (hh : A.handled = none) (hok : OK s.heap) (hn : n ≤ sizeLine)
    (h : ∀ h' tk (acc : Array Value) c, (∀ b o, s.heap.get? b = some o → h'.get? b = some o) → h'.get? s.heap.objs.size = some { cls := .type "list", dict := none, data := .seq acc c, slots := #[] } → PySem.ItemsOf P acc n → Q acc.toList { s with heap := h', toks := tk }) :
    wpAny (model prog w) A (collect (.ref r)) Q E s := by
  unfold collect
  refine wpAny_bind (wpAny_runValue (codeAny_builtin entry_proto_collect' ?_))
  show wpAny _ _ (do again (.builtin "list.__iadd__" ⟨[← newList [], .ref r], []⟩)) _ _ s
  refine wpAny_bind (wpAny_newList (wpAny_pure ⟨Code.quiet_builtin _ (by decide +kernel), codeAny_builtin entry_list_iadd' ?_⟩))
  show wpAny _ _ (Builtin.List.listExtendWith (.ref s.heap.objs.size) (.ref r) (.ref s.heap.objs.size)) _ _ { s with heap := s.heap.push (seqObj "list" #[] 0) }
  have hlt := K.there _ hok
  have hS : (s.heap.push (seqObj "list" #[] 0)).get? s.heap.objs.size = some { cls := .type "list", data := .seq #[] 0 } := Heap.get?_push_size _ rfl
  have hok2 : OK (s.heap.push (seqObj "list" #[] 0)) := K.keep _ _ hok fun b _ o e => Heap.get?_push_of_some _ e
  rw [Around.under_plainId (id := "list.__iadd__") (by decide +kernel) _]
  refine PySem.W.kdl_extend (R := fun r s' => match r with
    | .ok (.ret v) => wpAny (model prog w) A (match v with
        | .ref a => do
          let o ← load a
          match o.data with
          | .seq xs _ => pure xs.toList
          | _ => unsupported "internal:collect"
        | _ => unsupported "internal:collect") Q E s'
    | .ok _ => False
    | .error e => E e s') (s := { s with heap := s.heap.push (seqObj "list" #[] 0) }) K hh hok2 s.heap.objs.size (Nat.ne_of_gt hlt.1) (Nat.ne_of_gt hlt.2) (.ref s.heap.objs.size) 0 hS (fun h' tk acc c hk hS' hacc => ?_) hn
  refine wpAny_bind (wpAny_load hS' ?_)
  exact wpAny_pure (h h' tk acc c (fun b o e => hk b o (Nat.ne_of_lt (Heap.lt_size e)) (Heap.get?_push_of_some _ e)) hS' hacc)
end
def rSortedD : List V → Hp → VK → Prop := fun vs H Q => ∃ (a : Addr) (kvs : List (Key × V)) (ns : List Int), vs = [V.ref a] ∧ H a = some (.dK kvs) ∧ kvs.map (·.1) = ns.map Sum.inl ∧
  ∀ (ns' : List Int) (p : Addr), ns'.Perm ns → ns'.Pairwise (· ≤ ·) → H p = none → Q (.ref p) (upd H p (.lst (ns'.map V.int)))
theorem cr_sortedD {X : Cx} (hc : X.calm = true) : CallR X (.builtin "sorted") rSortedD := by
  intro pins s σ H vs us Q I r h
  obtain ⟨a, kvs, ns, rfl, ha, hks, q⟩ := h
  rw [Vals.ref1 r]
  obtain ⟨z, lo, vs, rk, hd⟩ := (show ObjOk X.prog X.w H s.heap a (.dK kvs) from I.hok a _ ha)
  obtain ⟨ep, hat⟩ := hd.dictAt
  have hl : kvs.length = vs.length := Paired.length rk
  have hkl : ns.length = kvs.length := by
    have := congrArg List.length hks
    rw [List.length_map, List.length_map] at this
    exact this.symm
  refine Calls.call_function_entry kind_sorted plain_sorted entry_sorted (args_sorted1 _) ?_
  unfold Builtin.«sorted»
  refine wpAny_bind (m := checkCount "sorted" 1 1 _) (wpAny_pure ?_)
  refine wpAny_bind (gather_src (PySem.W.kdl_dict (knd := mixKind X.prog X.w) (kvs := vs) (ep := ep) lo) (by exact I.ok.hd hc) hat (by rw [← hl]; exact z) fun h' tk acc c hk hS hacc => ?_)
  have el : acc.toList.length = acc.size := by simp
  have rv : Vals (ns.map V.int) acc.toList := by
    refine vals_of_at (by rw [List.length_map, el, hacc.1, ← hl, hkl]) fun j x w h1 h2 => ?_
    obtain ⟨k, y, hky, hi⟩ := hacc.2 j w (by rw [← Array.getElem?_toList]; exact h2)
    have e1 : (kvs.map (·.1))[j]? = some k := by
      rw [KV.keys rk, List.getElem?_map, hky] <;> rfl
    rw [hks, List.getElem?_map] at e1
    rw [List.getElem?_map] at h1
    cases e : ns[j]? with
    | none => rw [e] at h1; cases h1
    | some n =>
      rw [e] at h1 e1
      have e1 : Sum.inl n = k := Option.some.inj e1
      have h1 : V.int n = x := Option.some.inj h1
      rw [← h1]
      have := keyIs_rel hi
      rw [← e1] at this
      exact this
  have hi := rv.ints
  have hzi : acc.toList.length ≤ sizeLine := by rw [el, hacc.1, ← hl]; exact z
  have hlt : s.heap.objs.size < h'.objs.size := Heap.lt_size hS
  refine wpAny_bind (wpAny_newList ?_ hzi)
  have hoL : (h'.push (seqObj "list" acc.toList.toArray 0)).get? h'.objs.size = some (seqObj "list" acc.toList.toArray 0) := Heap.get?_push_size _ rfl
  refine wpAny_bind (wpAny_holding (wpAny_call_entry slot_list_sort ⟨_, hoL, rfl⟩ entry_list_sort (SrtO.list_sort_ord SrtO.swo_int hoL hzi (fun h2 => SrtO.ints_sortable hi h2) fun out h1 h2 => ⟨_, rfl, ?_⟩) (args_list_sort _)))
  refine wpAny_pure ⟨_, rfl, ?_⟩
  obtain ⟨k1, k2, k3⟩ := SrtO.ints_out hi h1 h2
  have hlen : ((out.map SrtO.iv).map V.int).length ≤ sizeLine := by
    rw [List.length_map, k2.length_eq, hkl]
    exact z
  obtain ⟨e0, he0⟩ := sortedHeap_at (out := out.toArray) hoL
  refine ⟨.ref _, upd H h'.objs.size (.lst ((out.map SrtO.iv).map V.int)), I.laid (t' := tk) (fun b o e => ?_) (Nat.le_of_lt hlt) ⟨hlen, out, e0, vals_of_ints k1, he0⟩, rfl, q _ _ k2 k3 (I.hok.fresh (Nat.le_of_lt hlt))⟩
  have hb := Heap.lt_size (hk b o e)
  refine (sortedHeap_old (Nat.ne_of_lt hb) (by rw [size_push']; exact Nat.lt_succ_of_lt hb)).trans ?_
  exact Heap.get?_push_of_some _ (hk b o e)
end Sd

set_option Elab.async false
set_option linter.all false
set_option maxRecDepth 100000
set_option maxHeartbeats 2000000
/-! own rule: a dict comprehension of two clauses. One lemma speaks of a clause's turn (turnK), whichever clause it is; into_blk: the block is entered, and left -/
namespace L2.D2
open PySem PySem.Spec PyProof.Rows L2
/-- a clause's turn; k: what comes behind its tests -/
def turnK (at_ : Pos) (tg : Expr) (cs : List Expr) (it : Value) (env : Env) (k : Bool → Sem Fin) : Sem Fin := do
  standAt at_
  match ← pyNext it with
  | none => pure (.done .next)
  | some v =>
    letOwnedTupleGo tg it v
    assign tg env v
    let go ← forIn cs true fun c r => if r = true then do let ok ← isTrue c env (eval c env); pure (ForInStep.yield ok) else pure (ForInStep.yield r)
    k go
section
variable {kx vx ta ia tb ib : Expr} {ca cb : List Expr} {sc : Scope} {pos : Pos}
theorem turn_a (it : Value) (D : Addr) (env : Env) : compTurn (.DictComp kx vx [⟨ta, ia, ca, 0⟩, ⟨tb, ib, cb, 0⟩] sc pos) 0 it (.ref D) env =
    turnK ia.pos ta ca it env fun go => if go = true then (do
        let src ← eval ib env
        standAt ib.pos
        let src ← foldedSetIterable ib env src
        let _ ← runOwn (.compStart (.DictComp kx vx [⟨ta, ia, ca, 0⟩, ⟨tb, ib, cb, 0⟩] sc pos) 1 (← holding [src] (pyIter src)) (.ref D) env) env
        again (.compLoop (.DictComp kx vx [⟨ta, ia, ca, 0⟩, ⟨tb, ib, cb, 0⟩] sc pos) 0 it (.ref D) env))
      else again (.compLoop (.DictComp kx vx [⟨ta, ia, ca, 0⟩, ⟨tb, ib, cb, 0⟩] sc pos) 0 it (.ref D) env) := by rfl
theorem turn_b (it : Value) (D : Addr) (env : Env) : compTurn (.DictComp kx vx [⟨ta, ia, ca, 0⟩, ⟨tb, ib, cb, 0⟩] sc pos) 1 it (.ref D) env =
    turnK ib.pos tb cb it env fun go => if go = true then (do
        (do
          let key ← eval kx env
          let val ← holding [key] (eval vx env)
          standAt { kx.pos with endLine := vx.pos.endLine, endCol := vx.pos.endCol }
          holding [key, val] (dictSet D key val))
        again (.compLoop (.DictComp kx vx [⟨ta, ia, ca, 0⟩, ⟨tb, ib, cb, 0⟩] sc pos) 1 it (.ref D) env))
      else again (.compLoop (.DictComp kx vx [⟨ta, ia, ca, 0⟩, ⟨tb, ib, cb, 0⟩] sc pos) 1 it (.ref D) env) := by rfl
end
section
variable {X : Cx}
/-- a walk stands at turn i, and its own objects are untracked -/
structure Walking (X : Cx) (pins : List (Addr × Obj)) (σ : St) (fp : List Addr) (tn : Nat → Heap → Prop) (i : Nat) (H : Hp) (s : Shared) : Prop where
  inv : Inv X pins σ H s
  st : tn i s.heap
  nil : ∀ b ∈ fp, H b = none
variable {pins : List (Addr × Obj)} {σ : St} {H : Hp} {s : Shared} {J : It} {fp : List Addr} {it : Addr} {tn : Nat → Heap → Prop} {tg : Expr} {cs : List Expr} {g : TG} {tt : TT} {i : Nat}
theorem Walking.weak {σ' : St} (w : Walking X pins σ fp tn i H s) (hl : σ'.length = σ.length) (hw : ∀ (j : Nat) v, σ'[j]? = some (some v) → σ[j]? = some (some v)) : Walking X pins σ' fp tn i H s := ⟨w.inv.weak hl hw, w.st, w.nil⟩
/-- behind a turn's own work, its objects pinned at h -/
theorem back (T : Turn X.prog X.w X.K tg J fp it tn) {h : Heap} (st : tn i h) (I : Inv X (pins ++ pinsAt fp h) σ H s) : Walking X pins σ fp tn i H s := by
  have pin : ∀ b ∈ fp, ∀ o, h.get? b = some o → s.heap.get? b = some o ∧ H b = none := fun b hb o e => by
    have q := I.pin (b, o) (List.mem_append_right _ (List.mem_append_right _ (mem_pinsAt hb e)))
    exact ⟨q.1, q.2.1⟩
  refine ⟨I.unpinned, T.keep _ _ _ st fun b hb o e => (pin b hb o e).1, fun b hb => ?_⟩
  obtain ⟨o, e, _⟩ := T.obj _ _ st b hb
  exact (pin b hb o e).2
/-- a turn that finds no more -/
theorem turn_stop (hc : X.calm = true) (T : Turn X.prog X.w X.K tg J fp it tn) (hf : ∀ H', (∀ b ∈ fp, H' b = none) → ∀ b ∈ fp, FpOk X pins H' b) (wk : Walking X pins σ fp tn i H s) (hs : J.stop i H) {p : Pos} {k : Bool → Sem Fin} {Q : Fin → Shared → Prop} {E : Value → Shared → Prop}
    (hq : ∀ s', Inv X pins σ H s' → Q (.done .next) s') : wpAny (model X.prog X.w) X.A (turnK p tg cs (.ref it) X.env k) Q E s := by
  unfold turnK
  refine wpAny_bind (wpAny_standAt (wpAny_bind (thnF (T.done X rfl rfl rfl hc i pins s σ H (fun _ _ => False) wk.inv (hf H wk.nil) wk.st hs) fun r s' z => ?_)))
  obtain ⟨e, I⟩ := z
  rw [e]
  exact wpAny_pure (hq s' I)
/-- a turn that goes on: what is wanted of k -/
theorem turn_go (hc : X.calm = true) (hx : X.xe = fun _ _ => False) (T : Turn X.prog X.w X.K tg J fp it tn) (pg : PG X tg g) (pt : PTs X cs tt) (hf : ∀ H', (∀ b ∈ fp, H' b = none) → ∀ b ∈ fp, FpOk X pins H' b) (wk : Walking X pins σ fp tn i H s) (go : J.go i H)
    {Pm : St → Prop} {B : St → Bool → Hp → Prop} (step : ∀ x H', J.yld i H x H' → g x σ H' fun σ2 H2 => Pm σ2 ∧ tt σ2 H2 (B σ2)) {p : Pos} {k : Bool → Sem Fin} {Q : Fin → Shared → Prop} {E : Value → Shared → Prop}
    (hk : ∀ (pl : List (Addr × Obj)), (∀ σ' H' s', Inv X (pins ++ pl) σ' H' s' → Walking X pins σ' fp tn (i + 1) H' s') → ∀ b σ2 H3 s3, Inv X (pins ++ pl) σ2 H3 s3 → Pm σ2 → B σ2 b H3 → wpAny (model X.prog X.w) X.A (k b) Q E s3) :
    wpAny (model X.prog X.w) X.A (turnK p tg cs (.ref it) X.env k) Q E s := by
  unfold turnK
  refine wpAny_bind (wpAny_standAt (wpAny_bind (thnF (T.item X rfl rfl rfl hc i pins s σ H (fun _ _ => False) wk.inv (hf H wk.nil) wk.st go) fun r s1 z => ?_)))
  obtain ⟨u, e, z⟩ := z
  rw [e]
  refine wpAny_bind (thnF z fun _ s2 z => ?_)
  obtain ⟨x, H2, I2, rx, y, st2, n2⟩ := z
  have a := pg.run _ s2 σ H2 x u _ (I2.pinned (hf H2 n2) (T.obj _ _ st2)) rx (step x H2 y)
  rw [hx] at a
  refine wpAny_bind (thnF a fun _ s3 z => ?_)
  obtain ⟨σ3, H3, I3, h3, q3⟩ := z
  have b := pt.run _ s3 σ3 H3 _ I3 q3
  rw [hx] at b
  refine wpAny_bind (thnF b fun more s4 z => ?_)
  obtain ⟨H4, I4, q4⟩ := z
  exact hk (pinsAt fp s2.heap) (fun σ' H' s' I' => back T st2 I') more σ3 H4 s4 I4 h3 q4
end
section
variable {X : Cx} {kx vx ta ia tb ib : Expr} {ca cb : List Expr} {sc : Scope} {pos : Pos} {pins : List (Addr × Obj)} {σ : St} {H : Hp} {s : Shared} {J : It} {fp : List Addr} {it D : Addr} {tn : Nat → Heap → Prop} {ga gb : TG} {qa qb : TT} {wb : TI} {tk tv : TE} {va vb : List Nat} {R : Result → Shared → Prop}
/-- what a turn of the second clause is to answer -/
def StepB (gb : TG) (qb : TT) (tk tv : TE) (vb : List Nat) (D : Addr) (J : It) (σ : St) (Nx : Hp → Prop) (W : Nat → Nat → Hp → Prop) : Prop := ∀ j k H, W j k H →
  (J.stop j H ∧ Nx H) ∨ (J.go j H ∧ ∃ Ny : Hp → Prop, (∀ H', Ny H' → ∃ k', k' < k ∧ W (j + 1) k' H') ∧ ∀ x H', J.yld j H x H' → gb x (wipe σ vb) H' fun σ2 H2 => wipe σ2 vb = wipe σ vb ∧ qb σ2 H2 fun b H3 =>
    if b = true then tk σ2 H3 fun y H4 => tv σ2 H4 fun z H5 => ∃ kvs key, y = kV key ∧ H5 D = some (.dK kvs) ∧ kvs.length < sizeLine ∧ Ny (upd H5 D (.dK (putK kvs key z))) else Ny H3)
/-- what a turn of the first clause is to answer -/
def StepA (ga : TG) (qa : TT) (wb : TI) (gb : TG) (qb : TT) (tk tv : TE) (va vb : List Nat) (D : Addr) (J : It) (σ : St) (Nx : Hp → Prop) (W : Nat → Nat → Hp → Prop) : Prop := ∀ i m H, W i m H →
  (J.stop i H ∧ Nx H) ∨ (J.go i H ∧ ∃ Ny : Hp → Prop, (∀ H', Ny H' → ∃ m', m' < m ∧ W (i + 1) m' H') ∧ ∀ x H', J.yld i H x H' → ga x (wipe σ va) H' fun σ2 H2 => wipe σ2 va = wipe σ va ∧ qa σ2 H2 fun b H3 =>
    if b = true then wb σ2 H3 fun Jb H4 => ∃ Wb : Nat → Nat → Hp → Prop, (∃ k, Wb 0 k H4) ∧ StepB gb qb tk tv vb D Jb σ2 Ny Wb else Ny H3)
theorem loop_b (hc : X.calm = true) (hx : X.xe = fun _ _ => False) (T : Turn X.prog X.w X.K tb J fp it tn) (pg : PG X tb gb) (pt : PTs X cb qb) (pk : PE X kx tk) (pv : PE X vx tv) (hf : ∀ H', (∀ b ∈ fp, H' b = none) → ∀ b ∈ fp, FpOk X pins H' b)
    {Nx : Hp → Prop} {W : Nat → Nat → Hp → Prop} (turn : StepB gb qb tk tv vb D J σ Nx W) {m : Nat} (wk : Walking X pins (wipe σ vb) fp tn 0 H s) (w : W 0 m H) (hR : ∀ H' s', Inv X pins (wipe σ vb) H' s' → Nx H' → R (.ok .next) s') :
    codeAny (model X.prog X.w) X.A (.compLoop (.DictComp kx vx [⟨ta, ia, ca, 0⟩, ⟨tb, ib, cb, 0⟩] sc pos) 1 (.ref it) (.ref D) X.env) R s := by
  refine codeAny_loop rfl (fun n s' => ∃ i H', Walking X pins (wipe σ vb) fp tn i H' s' ∧ W i n H') (fun n s' z => ?_) m ⟨0, H, wk, w⟩
  obtain ⟨i, H', wk', w'⟩ := z
  show wpAny _ X.A ((compTurn (.DictComp kx vx [⟨ta, ia, ca, 0⟩, ⟨tb, ib, cb, 0⟩] sc pos) 1 (.ref it) (.ref D) X.env).onRaise (fun x => do noteFrame x X.env; theTreesLotGoes x)) _ _ s'
  refine wpAny_noted ?_
  rw [turn_b]
  rcases turn i n H' w' with ⟨stop, nx⟩ | ⟨go, Ny, hNy, step⟩
  · exact turn_stop hc T hf wk' stop fun s2 I2 => hR H' s2 I2 nx
  · refine turn_go hc hx T pg pt hf wk' go step fun pl bk b σ2 H3 s3 I3 hP q => ?_
    have fin : ∀ H4 s4, Inv X (pins ++ pl) σ2 H4 s4 → Ny H4 → ∃ m', m' < n ∧ ∃ i H, Walking X pins (wipe σ vb) fp tn i H s4 ∧ W i m' H := fun H4 s4 I4 n1 => by
      obtain ⟨m', hm, w2⟩ := hNy H4 n1
      exact ⟨m', hm, i + 1, H4, (bk σ2 H4 s4 I4).weak (by rw [← hP, wipe_length]) (fun j v e => by rw [← hP] at e; exact (wipe_some e).1), w2⟩
    cases b with
    | false => exact wpAny_pure ⟨rfl, fin H3 s3 I3 q⟩
    | true =>
      have a := pk.run _ s3 σ2 H3 _ I3 q
      rw [hx] at a
      refine wpAny_bind (wpAny_bind (thnF a fun key s4 z => ?_))
      obtain ⟨yk, H4, I4, rk, q4⟩ := z
      have a := pv.run _ s4 σ2 H4 _ I4 q4
      rw [hx] at a
      refine wpAny_bind (wpAny_holding (thnF a fun val s5 z => ?_))
      obtain ⟨yv, H5, I5, rv, kvs, k, ek, hD5, hz, n1⟩ := z
      subst ek
      exact wpAny_bind (wpAny_standAt (wpAny_holding (d_dictSet (X := X) I5 hD5 hz rk rv fun s6 I6 => wpAny_pure ⟨rfl, fin _ s6 I6 n1⟩)))
/-- the second clause begins -/
theorem start_b {A : Around} {itv acc : Value} {env : Env} (h0 : codeAny (model X.prog X.w) A (.compLoop (.DictComp kx vx [⟨ta, ia, ca, 0⟩, ⟨tb, ib, cb, 0⟩] sc pos) 1 itv acc env) R s)
    (h1 : ∀ (Q : Value → Shared → Prop) (E : Value → Shared → Prop), Q itv s → wpAny (model X.prog X.w) A (pyIter itv) Q E s) :
    codeAny (model X.prog X.w) A (.compStart (.DictComp kx vx [⟨ta, ia, ca, 0⟩, ⟨tb, ib, cb, 0⟩] sc pos) 1 itv acc env) R s := by
  refine codeAny_of_tree ?_
  show wpAny _ _ ((compStart (.DictComp kx vx [⟨ta, ia, ca, 0⟩, ⟨tb, ib, cb, 0⟩] sc pos) 1 itv acc env).onRaise (fun x => do noteFrame x env; standAt theWindowsPlace)) _ _ s
  refine wpAny_notedAt ?_
  unfold compStart
  show wpAny _ _ (ask >>= _) _ _ s
  refine wpAny_bind (wpAny_askSetting (wpAny_ite ?_))
  split
  · exact wpAny_bind (wpAny_pure (wpAny_pure (And.intro rfl h0)))
  · exact wpAny_bind (wpAny_rule (wpAny_bind (wpAny_standAt (wpAny_bind (h1 _ _ (wpAny_pure (And.intro rfl h0)))))))
theorem loop_a (hc : X.calm = true) (hx : X.xe = fun _ _ => False) (T : Turn X.prog X.w X.K ta J fp it tn) (pg : PG X ta ga) (pt : PTs X ca qa) (pi : PI X tb ib wb) (pg2 : PG X tb gb) (pt2 : PTs X cb qb) (pk : PE X kx tk) (pv : PE X vx tv)
    (hf : ∀ H', (∀ b ∈ fp, H' b = none) → ∀ b ∈ fp, FpOk X pins H' b) (hs : ∀ x, foldedSetIterable ib X.env x = pure x) (hv : ∀ i ∈ vb, i ∈ va)
    {Nx : Hp → Prop} {W : Nat → Nat → Hp → Prop} (turn : StepA ga qa wb gb qb tk tv va vb D J σ Nx W) {m : Nat} (wk : Walking X pins (wipe σ va) fp tn 0 H s) (w : W 0 m H) (hR : ∀ H' s', Inv X pins (wipe σ va) H' s' → Nx H' → R (.ok .next) s') :
    codeAny (model X.prog X.w) X.A (.compLoop (.DictComp kx vx [⟨ta, ia, ca, 0⟩, ⟨tb, ib, cb, 0⟩] sc pos) 0 (.ref it) (.ref D) X.env) R s := by
  refine codeAny_loop rfl (fun n s' => ∃ i H', Walking X pins (wipe σ va) fp tn i H' s' ∧ W i n H') (fun n s' z => ?_) m ⟨0, H, wk, w⟩
  obtain ⟨i, H', wk', w'⟩ := z
  show wpAny _ X.A ((compTurn (.DictComp kx vx [⟨ta, ia, ca, 0⟩, ⟨tb, ib, cb, 0⟩] sc pos) 0 (.ref it) (.ref D) X.env).onRaise (fun x => do noteFrame x X.env; theTreesLotGoes x)) _ _ s'
  refine wpAny_noted ?_
  rw [turn_a]
  rcases turn i n H' w' with ⟨stop, nx⟩ | ⟨go, Ny, hNy, step⟩
  · exact turn_stop hc T hf wk' stop fun s2 I2 => hR H' s2 I2 nx
  · refine turn_go hc hx T pg pt hf wk' go step fun pl bk b σ2 H3 s3 I3 hP q => ?_
    have hlen : (wipe σ va).length = σ2.length := by rw [← hP, wipe_length]
    have fin : ∀ σ' H4 s4, Inv X (pins ++ pl) σ' H4 s4 → σ'.length = σ2.length → (∀ (j : Nat) v, (wipe σ va)[j]? = some (some v) → σ'[j]? = some (some v)) → Ny H4 → ∃ m', m' < n ∧ ∃ i H, Walking X pins (wipe σ va) fp tn i H s4 ∧ W i m' H := fun σ' H4 s4 I4 hl hw n1 => by
      obtain ⟨m', hm, w2⟩ := hNy H4 n1
      exact ⟨m', hm, i + 1, H4, (bk σ' H4 s4 I4).weak (hlen.trans hl.symm) hw, w2⟩
    cases b with
    | false => exact wpAny_pure ⟨rfl, fin σ2 H3 s3 I3 rfl (fun j v e => by rw [← hP] at e; exact (wipe_some e).1) q⟩
    | true =>
      have a := pi.run _ s3 σ2 H3 _ I3 q
      rw [hx] at a
      refine wpAny_bind (thnF a fun src s4 a => ?_)
      refine wpAny_bind (wpAny_standAt (wpAny_bind (wpAny_of_eq (hs src) (wpAny_bind (wpAny_holding (thnF a fun itv s5 z => ?_))))))
      obtain ⟨ib2, fq, tm, Jb, H5, e, I5, Tb, st5, f5, Wb, ⟨mb, wb0⟩, turnb⟩ := z
      subst e
      refine wpAny_bind (wpAny_runOwn ?_)
      rw [Around.mark_none]
      refine start_b (loop_b (σ := σ2) hc hx Tb pg2 pt2 pk pv (fun H6 hn b hb => ⟨hn b hb, (f5 b hb).2⟩) turnb ⟨I5.weak (wipe_length _ _) (fun j v e => (wipe_some e).1), st5, fun b hb => (f5 b hb).1⟩ wb0 fun H6 s6 I6 n6 => ?_) (fun Q E hq => Tb.self X.A 0 s5 Q E st5 hq)
      exact wpAny_pure ⟨rfl, fin _ H6 s6 I6 (wipe_length _ _) (fun j v e => by
        rw [← hP] at e
        obtain ⟨e1, e2⟩ := wipe_some e
        rw [wipe_out fun z => e2 (hv j z)]
        exact e1) n6⟩
/-- {k: v for a in A if .. for b in B if ..} -/
def tDc2 (wa : TI) (ga : TG) (qa : TT) (wb : TI) (gb : TG) (qb : TT) (tk tv : TE) (va vb : List Nat) : TE := fun σ H Q => wa σ H fun J H1 => ∀ D, H1 D = none → ∃ W : Nat → Nat → Hp → Prop, (∃ m, W 0 m (upd H1 D (.dK []))) ∧ StepA ga qa wb gb qb tk tv va vb D J σ (Q (.ref D)) W
/-- a comprehension's block is entered with a new dict, and left -/
theorem into_blk {scope : Scope} {own : List (Str × Nat)} {tg : Expr} (hN : X.N.Nodup) (ok : BlkOk X.N X.env.scope scope own) (I : Inv X pins σ H s) (T : Turn X.prog X.w X.K tg J fp it tn) (st : tn 0 s.heap) (hf : ∀ b ∈ fp, FpOk X pins H b) {Q : Value → Env → Shared → Prop} {E : Value → Shared → Prop}
    (h : ∀ (D C : Addr) (cl : List (Str × Addr)) (s3 s4 : Shared), H D = none → Walking (X.blk s3 (upd H D (.dK [])) scope (compEnvC scope cl C X.env) fp) [] (wipe σ (own.map (·.2))) fp tn 0 (upd H D (.dK [])) s4 →
      (∀ H', (∀ b ∈ fp, H' b = none) → ∀ b ∈ fp, FpOk (X.blk s3 (upd H D (.dK [])) scope (compEnvC scope cl C X.env) fp) [] H' b) →
      (∀ σ' H' s', Inv (X.blk s3 (upd H D (.dK [])) scope (compEnvC scope cl C X.env) fp) [] σ' H' s' → Inv X pins σ H' s' ∧ (∃ m, s'.heap.Ns C m) ∧ FpOk X pins H' C) → Q (.ref D) (compEnvC scope cl C X.env) s4) :
    wpAny (model X.prog X.w) X.A newDict (fun acc s3 => wpAny (model X.prog X.w) X.A (newFunctionEnv scope X.env.globals (cloFrom X.env.cells scope.names []) [] X.env.qual none .none (some X.env)) (fun cenv s4 => Q acc { cenv with scope := relabel scope X.env } s4) E s3) E s := by
  refine wpAny_newObj_type (newEnv_comp ?_)
  have hDn : H s.heap.objs.size = none := I.hok.fresh (Nat.le_refl _)
  have up : ∀ b u, s.heap.get? b = some u → (s.heap.push { cls := .type "dict", data := .dict #[] }).get? b = some u := fun b u e => Heap.get?_push_of_some _ e
  have I3 := I.laid (t' := s.toks) up (Nat.le_refl _) (dk_empty s.heap I.big)
  generalize hs3 : ({ s with heap := s.heap.push { cls := .type "dict", data := .dict #[] }, toks := s.toks } : Shared) = s3 at I3
  have hh : s3.heap = s.heap.push { cls := .type "dict", data := .dict #[] } := by rw [← hs3]
  have f3 : ∀ b ∈ fp, FpOk X pins (upd H s.heap.objs.size (.dK [])) b ∧ b < s3.heap.objs.size := fun b hb => by
    obtain ⟨u, e, _⟩ := T.obj _ _ st b hb
    have lt := Heap.lt_size e
    refine ⟨⟨?_, (hf b hb).2⟩, ?_⟩
    · rw [upd_ne (Nat.ne_of_lt lt)]
      exact (hf b hb).1
    · rw [hh, Heap.size_push]
      exact Nat.lt_succ_of_lt lt
  have I4 := block_start I3 ok hN f3
  have key := h s.heap.objs.size s3.heap.objs.size (cellsFrom (s3.heap.objs.size + 1) scope.names (cloFrom X.env.cells scope.names [])) s3 _ hDn
    ⟨I4, T.keep _ _ _ st fun b _ u e => pushCells_keeps _ _ _ _ (Heap.get?_push_of_some _ (by rw [hh]; exact up b u e)), fun b hb => (f3 b hb).1.1⟩
    (fun H' hn b hb => ⟨hn b hb, (I4.ok.exf b hb).1, I4.ok.exfs b hb, .inl hb, fun x c e => (I4.ok.exf b hb).2 x c e, fun p hp => nomatch hp⟩)
    (fun σ' H' s' I6 => ⟨I3.call' (ch := fp) I6.os I6.base I6.hok I6.bare fun b hb => ⟨(f3 b hb).1.2.2.2.1, (f3 b hb).1.2.1, (f3 b hb).1.2.2.2.2.1, (f3 b hb).1.2.2.2.2.2⟩, let ⟨m, hn, _⟩ := I6.loc; ⟨m, hn⟩, I3.fpOk (Nat.le_refl _) I6.free⟩)
  exact key
theorem pe_dc2 {scope : Scope} {own : List (Str × Nat)} {wa : TI} (hc : X.calm = true) (hN : X.N.Nodup) (hi : PI X ta ia wa) (ok : BlkOk X.N X.env.scope scope own) (hv : ∀ i ∈ vb, i ∈ own.map (·.2))
    (h1 : ∀ (s : Shared) (H : Hp) (C : Addr) (cl : List (Str × Addr)) (fp : List Addr), PG (X.blk s H scope (compEnvC scope cl C X.env) fp) ta ga) (h2 : ∀ (s : Shared) (H : Hp) (C : Addr) (cl : List (Str × Addr)) (fp : List Addr), PTs (X.blk s H scope (compEnvC scope cl C X.env) fp) ca qa)
    (h3 : ∀ (s : Shared) (H : Hp) (C : Addr) (cl : List (Str × Addr)) (fp : List Addr), PI (X.blk s H scope (compEnvC scope cl C X.env) fp) tb ib wb)
    (h4 : ∀ (s : Shared) (H : Hp) (C : Addr) (cl : List (Str × Addr)) (fp : List Addr), PG (X.blk s H scope (compEnvC scope cl C X.env) fp) tb gb) (h5 : ∀ (s : Shared) (H : Hp) (C : Addr) (cl : List (Str × Addr)) (fp : List Addr), PTs (X.blk s H scope (compEnvC scope cl C X.env) fp) cb qb)
    (h6 : ∀ (s : Shared) (H : Hp) (C : Addr) (cl : List (Str × Addr)) (fp : List Addr), PE (X.blk s H scope (compEnvC scope cl C X.env) fp) kx tk) (h7 : ∀ (s : Shared) (H : Hp) (C : Addr) (cl : List (Str × Addr)) (fp : List Addr), PE (X.blk s H scope (compEnvC scope cl C X.env) fp) vx tv)
    (hs : ∀ x, foldedSetIterable ia X.env x = pure x := by intro _; rfl) (hs1 : ∀ env x, foldedSetIterable ib env x = pure x := by intro _ _; rfl) :
    PE X (.DictComp kx vx [⟨ta, ia, ca, 0⟩, ⟨tb, ib, cb, 0⟩] scope pos) (tDc2 wa ga qa wb gb qb tk tv (own.map (·.2)) vb) := by
  refine ⟨fun ps s0 σ0 H0 Q I h => ?_⟩
  rw [arm_eval_DictComp]
  have hfr : ∀ y ∈ scope.names, y.2 = .free → ∃ c, X.env.cells.lookup y.1 = some c := fun y hy e => (ok.free y hy e).elim (fun k => I.ok.has _ (.inl k)) fun k => I.ok.has _ (.inr k)
  refine wpAny_comprehension_free rfl hs (closure_ok hfr) ok.kind (fun y hy e => by rw [ok.uniq y hy, e]) (thn (hi.run ps s0 σ0 H0 _ I h) fun xv s1 z => thn z fun iv s2 z2 => ?_)
  obtain ⟨a, fa, ta', Ja, H2, e, I2, T, st2, f2, q⟩ := z2
  subst e
  refine into_blk (Q := fun acc ce s4 => codeAny (model X.prog X.w) X.A (.compStart (.DictComp kx vx [⟨ta, ia, ca, 0⟩, ⟨tb, ib, cb, 0⟩] scope pos) 0 (.ref a) acc ce) (compPost (model X.prog X.w) X.A X.xe none (EP X ps σ0 Q) acc ce.locals) s4) hN ok I2 T st2 f2 fun D C cl s3 s4 hD wk stat leave => ?_
  obtain ⟨W, ⟨m0, w0⟩, turn⟩ := q D hD
  have loop : codeAny (model X.prog X.w) X.A (.compLoop (.DictComp kx vx [⟨ta, ia, ca, 0⟩, ⟨tb, ib, cb, 0⟩] scope pos) 0 (.ref a) (.ref D) (compEnvC scope cl C X.env)) (compPost (model X.prog X.w) X.A X.xe none (EP X ps σ0 Q) (.ref D) C) s4 :=
    loop_a (X := X.blk s3 (upd H2 D (.dK [])) scope (compEnvC scope cl C X.env) fa) hc rfl T (h1 _ _ _ _ _) (h2 _ _ _ _ _) (h3 _ _ _ _ _) (h4 _ _ _ _ _) (h5 _ _ _ _ _) (h6 _ _ _ _ _) (h7 _ _ _ _ _) stat (hs1 _) hv turn wk w0 fun H' s' I' qd => by
      obtain ⟨I7, ⟨m, hn⟩, f0, f1, f3, f4, f5, f6⟩ := leave _ H' s' I'
      exact ⟨m, hn, fun h' sb => ⟨.ref D, H', I7.turned (t' := s'.toks) (fun b u hb e => (sb.2 b hb).trans e) f0 f1 f4 f5 f6, rfl, qd⟩⟩
  exact codeAny_compStart_dict loop (T.self X.A 0 _ _ _ wk.st loop)
end
section
variable {J : It} {n : Nat} {G : Hp → Prop} {Y : Nat → Hp → V → Hp → Prop} {ga gb : TG} {qa qb : TT} {wb : TI} {tk tv : TE} {va vb : List Nat} {D : Addr} {σ : St}
/-- the first clause's walk, by its turns -/
theorem stepA_it (w : Walk J n G Y) {H0 : Hp} {Nd : Hp → Prop} (Pv : Nat → Hp → Prop) (h0 : Pv 0 H0) (hG : ∀ i H, i ≤ n → Pv i H → G H)
    (hs : ∀ i x H H', i < n → Pv i H → Y i H x H' → ga x (wipe σ va) H' fun σ2 H2 => wipe σ2 va = wipe σ va ∧ qa σ2 H2 fun b H3 =>
      if b = true then wb σ2 H3 fun Jb H4 => ∃ Wb : Nat → Nat → Hp → Prop, (∃ k, Wb 0 k H4) ∧ StepB gb qb tk tv vb D Jb σ2 (Pv (i + 1)) Wb else Pv (i + 1) H3) (hd : ∀ H, Pv n H → Nd H) :
    ∃ W : Nat → Nat → Hp → Prop, (∃ m, W 0 m H0) ∧ StepA ga qa wb gb qb tk tv va vb D J σ Nd W := by
  refine ⟨fun i m H => m = n - i ∧ i ≤ n ∧ Pv i H, ⟨n, rfl, Nat.zero_le _, h0⟩, fun i m H z => ?_⟩
  obtain ⟨rfl, hi, p⟩ := z
  rcases Nat.lt_or_ge i n with hlt | hge
  · exact .inr ⟨w.goes i H hlt (hG i H hi p), Pv (i + 1), fun H' p' => ⟨n - (i + 1), by omega, rfl, hlt, p'⟩, fun x H' y => hs i x H H' hlt p (w.yields i H x H' hlt (hG i H hi p) y)⟩
  · obtain rfl : i = n := Nat.le_antisymm hi hge
    exact .inl ⟨w.stops H (hG i H hi p), hd H p⟩
/-- the second clause's -/
theorem stepB_it (w : Walk J n G Y) {H0 : Hp} {Nx : Hp → Prop} (Pv : Nat → Hp → Prop) (h0 : Pv 0 H0) (hG : ∀ i H, i ≤ n → Pv i H → G H)
    (hs : ∀ i x H H', i < n → Pv i H → Y i H x H' → gb x (wipe σ vb) H' fun σ2 H2 => wipe σ2 vb = wipe σ vb ∧ qb σ2 H2 fun b H3 =>
      if b = true then tk σ2 H3 fun y H4 => tv σ2 H4 fun z H5 => ∃ kvs key, y = kV key ∧ H5 D = some (.dK kvs) ∧ kvs.length < sizeLine ∧ Pv (i + 1) (upd H5 D (.dK (putK kvs key z))) else Pv (i + 1) H3) (hd : ∀ H, Pv n H → Nx H) :
    ∃ W : Nat → Nat → Hp → Prop, (∃ m, W 0 m H0) ∧ StepB gb qb tk tv vb D J σ Nx W := by
  refine ⟨fun i m H => m = n - i ∧ i ≤ n ∧ Pv i H, ⟨n, rfl, Nat.zero_le _, h0⟩, fun i m H z => ?_⟩
  obtain ⟨rfl, hi, p⟩ := z
  rcases Nat.lt_or_ge i n with hlt | hge
  · exact .inr ⟨w.goes i H hlt (hG i H hi p), Pv (i + 1), fun H' p' => ⟨n - (i + 1), by omega, rfl, hlt, p'⟩, fun x H' y => hs i x H H' hlt p (w.yields i H x H' hlt (hG i H hi p) y)⟩
  · obtain rfl : i = n := Nat.le_antisymm hi hge
    exact .inl ⟨w.stops H (hG i H hi p), hd H p⟩
end
end L2.D2

set_option Elab.async false
set_option linter.all false
set_option maxRecDepth 100000
set_option maxHeartbeats 4000000
/-! max of a tuple of ints -/
namespace L2
open PySem PySem.Spec PyProof.Rows PySem.W
section
variable {X : Cx}
theorem fmax_ge : ∀ (l : List Int) (a : Int), a ≤ l.foldl max a ∧ ∀ z ∈ l, z ≤ l.foldl max a
  | [], a => ⟨Int.le_refl _, fun z hz => nomatch hz⟩
  | b :: l, a => by
    obtain ⟨h1, h2⟩ := fmax_ge l (max a b)
    rw [List.foldl_cons]
    refine ⟨by omega, fun z hz => ?_⟩
    rcases List.mem_cons.mp hz with rfl | hz
    · omega
    · exact h2 z hz
def rMaxTu (K : PySem.W.Frag) : List V → Hp → VK → Prop := fun vs H Q => ∃ (a : Addr) (ns : List Int), vs = [V.ref a] ∧ SqT K H a (ns.map V.int) ∧ ns ≠ [] ∧ ∀ m : Int, m ∈ ns → (∀ z ∈ ns, z ≤ m) → Q (.int m) H
theorem cr_maxTu (hh : X.A.handled = none) (hu : X.A.units + 65 < cLine) : CallR X (.builtin "max") (rMaxTu X.K) := by
  intro pins s σ H vs us Q I r h
  obtain ⟨a, ns, rfl, hs, hne, q⟩ := h
  obtain ⟨its, rv, tc, hz⟩ := I.tuple hs
  rw [Vals.ref1 r]
  obtain ⟨n, l, rfl⟩ := List.exists_cons_of_ne_nil hne
  obtain ⟨as, ra⟩ := readsAll_ints (h := s.heap) rv
  have al : ∀ x ∈ PyData.int n :: l.map PyData.int, ∃ b, x = .int b := fun x hx => by
    rw [← List.map_cons] at hx
    obtain ⟨b, _, e⟩ := List.mem_map.mp hx
    exact ⟨b, e.symm⟩
  refine max_tuple_data (x := .int n) (xs := l.map PyData.int) hh tc (by simpa using ra) ⟨fun x hx y hy => ?_, fun x hx z => ?_⟩ ?_ fun i v h' tk cs hv hr kp => ?_
  · obtain ⟨b1, rfl⟩ := al x hx
    obtain ⟨b2, rfl⟩ := al y hy
    simp [alike]
  · obtain ⟨b1, rfl⟩ := al x hx
    cases z
  · have := depth_ints0 (n :: l)
    rw [List.map_cons] at this
    omega
  · have hv2 : its[i]? = some v := by simpa using hv
    have hi : i < (n :: l).length := by
      have hl := rv.length
      rw [List.length_map] at hl
      rw [hl]
      exact (List.getElem?_eq_some_iff.mp hv2).1
    obtain ⟨z, ez, rz⟩ := rv.get (i := i) (x := V.int (n :: l)[i]) (by rw [List.getElem?_map, List.getElem?_eq_getElem hi]; rfl)
    obtain rfl : v = z := Option.some.inj (hv2.symm.trans ez)
    obtain ⟨t, rfl⟩ := rz
    rw [maxD_ints] at hr
    obtain ⟨h1, h2⟩ := fmax_ge l n
    have e : (n :: l)[i] = l.foldl max n := reads_int1 hr
    exact ⟨.int _, H, I.kept kp, ⟨t, rfl⟩, q _ (List.getElem_mem hi) fun z hz => by
      rw [e]
      rcases List.mem_cons.mp hz with rfl | hz
      · exact h1
      · exact h2 z hz⟩
end
end L2

set_option Elab.async false
set_option linter.all false
set_option maxRecDepth 100000
set_option maxHeartbeats 2000000
/-! rules whose reading names K (not X.K), for use in a comprehension's own block; blkOk_in: a comprehension in a comprehension -/
namespace L2
open PySem PySem.Spec PyProof.Rows Tw
section
variable {X : Cx} {K : PySem.W.Frag} {tg : Expr}
theorem pi_listK {l : Expr} {tl : TE} (hK : X.K = K) (hl : PE X l tl) : PI X tg l (iList K tl) := by
  subst hK
  exact pi_list hl
theorem pi_tupK {l : Expr} {tl : TE} (hK : X.K = K) (hl : PE X l tl) : PI X tg l (iTup K tl) := by
  subst hK
  exact pi_tup hl
theorem pi_enSK {e : Expr} {ta : TA} {p pos tpos : Pos} {elts : List Expr} {kk : Nat} (hK : X.K = K) (hg : Gl X "enumerate") (hm : X.mg "enumerate" = Option.none) (ha : PA X [e] ta) (hs : starEach [e] X.env = [(false, eval e X.env)] := by rfl) :
    PI X (.Tuple elts kk tpos) (.Call (.Name "enumerate" p) [e] [] pos) (iEnS K ta) := by
  subst hK
  exact pi_enS hg hm ha hs
theorem pi_zipAK {e e2 : Expr} {ta : TA} {p pos tpos : Pos} {elts : List Expr} {kk : Nat} (hK : X.K = K) (hg : Gl X "zip") (hm : X.mg "zip" = none) (ha : PA X [e, e2] ta)
    (hs : starEach [e, e2] X.env = (false, eval e X.env) :: starEach [e2] X.env := by rfl) (hpl : (backTo pos (starEach [e2] X.env)).any (·.1) = false := by rfl) :
    PI X (.Tuple elts kk tpos) (.Call (.Name "zip" p) [e, e2] [] pos) (RZ.iZipA K ta) := by
  subst hK
  exact RZ.pi_zipA hg hm ha hs hpl
theorem pe_fldK {e : Expr} {f : Str} {pos : Pos} {ta : TE} (hK : X.K = K) (he : PE X e ta) (hb : attributeBase e f X.env (eval e X.env) = eval e X.env) : PE X (.Attribute e f pos) (tFld K ta f) := by
  subst hK
  exact pe_fld he hb
theorem pe_orK {a b : Expr} {rest : List Expr} {pos : Pos} {ta tb : TE} (hK : X.K = K) (ha : PE X a ta) (hb : PE X (.BoolOp .Or (b :: rest) pos) tb) : PE X (.BoolOp .Or (a :: b :: rest) pos) (tOrT K ta tb) := by
  subst hK
  exact pe_orT ha hb
theorem pe_andK {a b : Expr} {rest : List Expr} {pos : Pos} {ta tb : TE} (hK : X.K = K) (ha : PE X a ta) (hb : PE X (.BoolOp .And (b :: rest) pos) tb) : PE X (.BoolOp .And (a :: b :: rest) pos) (tAndT K ta tb) := by
  subst hK
  exact pe_andT ha hb
theorem pe_notK {a : Expr} {pos : Pos} {ta : TE} (hK : X.K = K) (ha : PE X a ta) : PE X (.UnaryOp .Not a pos) (tNotT K ta) := by
  subst hK
  exact pe_notT ha
def rDictP (K : PySem.W.Frag) : List V → Hp → VK → Prop := fun xs H Q => ∃ (a : Addr) (ps : List Addr) (kvs : List (Key × V)), xs = [.ref a] ∧ SqL K H a (ps.map V.ref) ∧ Paired (fun p kv => SqT K H p [kV kv.1, kv.2]) ps kvs ∧ ∀ p, H p = none → Q (.ref p) (upd H p (.dK (mergeK [] kvs)))
theorem call_dictPK (hc : X.calm = true) : CallR X (.type "dict") (rDictP X.K) := call_dictP hc
theorem blkOk_in {N : List Str} {s : Shared} {H : Hp} {C : Addr} {cl : List (Str × Addr)} {fp : List Addr} {sc0 sc1 scope : Scope} {own : List (Str × Nat)} (hN : X.N = N) (h0 : X.env.scope = sc0) (h : blkC N (relS sc1 sc0) scope own = true) :
    BlkOk (X.blk s H sc1 (compEnvC sc1 cl C X.env) fp).N (X.blk s H sc1 (compEnvC sc1 cl C X.env) fp).env.scope scope own := by
  subst hN
  subst h0
  exact blkOk_by h
end
end L2

set_option Elab.async false
set_option linter.all false
set_option maxRecDepth 100000
set_option maxHeartbeats 2000000
/-! == and != of an own class where the other operand is an instance of another own class -/
namespace Tw
open PySem PySem.Spec PyProof.Rows L2
open PySem.W (InstAt looks_findIn looks_subIn ifBound_K cmp_K)
theorem nf_kit {K : PySem.W.Frag} {C : Addr} {t : Value} (h : PySem.W.kitOne K t (.ref C) = some false) : PySem.W.notFirst K C t = true := by
  unfold PySem.W.kitOne at h
  split at h
  · cases h
  · unfold PySem.W.kitCls at h
    simp only at h
    split at h
    · unfold PySem.W.notFirst
      rw [h]
      simp
    · cases h
section
variable {X : Cx} {CX : CXT} {K : PySem.W.Frag} {k : Nat} {f C : Addr} {fd : FuncData} {ps : List Str} {sp : Sp} {E : XK}
def rEqX (K : PySem.W.Frag) (C : Addr) (sp : Sp) (E : XK) (neg : Bool) : R2 := fun x y H Q =>
  ∃ a dx fs b D dy gs, x = .ref a ∧ H a = some (.ins C dx fs) ∧ y = .ref b ∧ H b = some (.ins D dy gs) ∧ PySem.W.kitOne K (.ref D) (.ref C) = some false ∧ sp [.ref a, y] H (fun v H' => ∃ r, v = .bl r ∧ Q (.bl (if neg then !r else r)) H') E
theorem op_eq_ownX (hK : X.K = K) (c : EqC X.K C f) (F : FnOk X.prog X.w X.K X.mg X.base CX k f fd ps sp) (hr : Room k X.A) (hb : Binds X.K fd ps []) (hx : Passes CX X E) : OpR X (compareOp .Eq) (rEqX K C sp E false) := by
  subst hK
  intro pins s σ H x y v u Q I rx ry ⟨a, dx, fs, b, D, dy, gs, ex, ha, ey, hb', kt, q⟩
  subst ex
  subst ey
  obtain rfl : v = Value.ref a := rx
  obtain rfl : u = Value.ref b := ry
  obtain ⟨mA, O, rr, _, _, _⟩ := ins_get I.hok ha
  obtain ⟨od, J, hl⟩ := O.look
  obtain ⟨mB, O2, rr2, _, _, _⟩ := ins_get I.hok hb'
  obtain ⟨od2, J2, hl2⟩ := O2.look
  obtain ⟨m0, hF⟩ := I.fr
  show wpAny _ _ (richCompare .Eq (.ref a) (.ref b)) _ _ _
  refine cmp_K hr.units0 hF I.ok.mod.kin J J2.type (nf_kit kt) c.eq c.fn (thn (run_sub F ⟨hr, rfl⟩ hb hx I (.cons (relR a) (.cons (relR b) .nil)) q) fun r s' ⟨z, H', I', rz, b, ez, q'⟩ => ?_)
  subst ez
  obtain rfl : r = Value.bool b := rz
  exact ⟨_, H', I', relB b, q'⟩
theorem op_ne_ownX (hK : X.K = K) (c : EqC X.K C f) (F : FnOk X.prog X.w X.K X.mg X.base CX k f fd ps sp) (hr : Room (k + 1) X.A) (hb : Binds X.K fd ps []) (hx : Passes CX X E) : OpR X (compareOp .NotEq) (rEqX K C sp E true) := by
  subst hK
  intro pins s σ H x y v u Q I rx ry ⟨a, dx, fs, b, D, dy, gs, ex, ha, ey, hb', kt, q⟩
  subst ex
  subst ey
  obtain rfl : v = Value.ref a := rx
  obtain rfl : u = Value.ref b := ry
  obtain ⟨mA, O, rr, _, _, _⟩ := ins_get I.hok ha
  obtain ⟨od, J, hl⟩ := O.look
  obtain ⟨mB, O2, rr2, _, _, _⟩ := ins_get I.hok hb'
  obtain ⟨od2, J2, hl2⟩ := O2.look
  obtain ⟨m0, hF⟩ := I.fr
  show wpAny _ _ (richCompare .NotEq (.ref a) (.ref b)) _ _ _
  refine ne_K (Room.units0 hr.in1) hr.units0 hF I.ok.mod.kin J J2.type (nf_kit kt) c (thn (run_sub F (Sub.in1 ⟨hr, rfl⟩) hb hx I (.cons (relR a) (.cons (relR b) .nil)) q) fun r s' ⟨z, H', I', rz, b, ez, q'⟩ => ?_)
  subst ez
  exact ⟨b, rz, _, H', I', relB (!b), q'⟩
end
end Tw

set_option Elab.async false
set_option linter.all false
set_option maxRecDepth 100000
set_option maxHeartbeats 2000000
/-! d.setdefault(t, x), d a dict keyed by tuples of ints and texts -/
namespace Dt
open PySem PySem.Spec PyProof.Rows L2
section
variable {X : Cx} {pins : List (Addr × Obj)} {σ : L2.St} {H : Hp} {s : Shared} {a b : Addr} {r : Value} {d : V} {k : List L2.Key} {A : Around} {E : Value → Shared → Prop}
theorem d_setdT {kvs : List (List L2.Key × V)} {Q : Value → Shared → Prop} (hu : A.units + 1 < cLine) (I : Inv X pins σ H s) (e : H a = some (.dT kvs)) (eb : H b = some (.tup (k.map kV))) (rd : RelV d r) (hl : kvs.length < sizeLine)
    (h1 : ∀ v, valV kvs k = some v → ∀ (w' : Value) (s' : Shared), Inv X pins σ H s' → RelV v w' → Q w' s') (h2 : valV kvs k = none → ∀ (w' : Value) (s' : Shared), Inv X pins σ (upd H a (.dT (putK kvs k d))) s' → RelV d w' → Q w' s') :
    wpAny (model X.prog X.w) A (call (.builtin "dict.setdefault") [.ref a, .ref b, r]) Q E s := by
  obtain ⟨z, hd, xs, rel, dd⟩ := dt_of I.hok e
  have hz : xs.length ≤ sizeLine := by
    rw [← Paired.length rel]
    exact z
  refine call_setdefault_heap (hsz := hz) (tupleKind_room_in1 hu) (key_of I.hok eb) hd dd (fun p hp => ?_) fun hn h' dd' hs => ?_
  · have q := rel.val k
    rw [hp] at q
    cases q0 : valV kvs k with
    | none =>
      rw [q0] at q
      exact (show False from q).elim
    | some v0 =>
      rw [q0] at q
      exact h1 v0 q0 _ _ (I.tok _) q
  · have q := rel.val k
    rw [hn] at q
    cases q0 : valV kvs k with
    | some v0 =>
      rw [q0] at q
      exact (show False from q).elim
    | none =>
      have hl2 : (putK kvs k d).length ≤ sizeLine := by
        have := length_putK kvs k d
        omega
      obtain ⟨q, es, ep, hq, h2', h3, h4, _, h5⟩ := dd'
      refine h2 q0 _ _ (d_write (t' := _) I (by rw [e]; exact True.intro) hs ⟨q, hq⟩ ⟨hl2, hd, _, (rel.put k eb rd).keeps fun c ys ec => ?_, q, es, ep, hq, h2', h3, h4, h5⟩) rd
      rw [upd_ne (ne_of ec e (fun z => nomatch z))]
      exact ec
end
/-- d.setdefault(y, z) -/
def tDSetdT (td ty tx : TE) : TE := fun σ H Q => td σ H fun x H1 => ∃ a, x = .ref a ∧ IsD H1 a ∧ ty σ H1 fun y H2 => tx σ H2 fun z H3 => ∃ (kvs : List (List L2.Key × V)) (k : List L2.Key) (b : Addr), H3 a = some (.dT kvs) ∧ y = .ref b ∧ H3 b = some (.tup (k.map kV)) ∧ kvs.length < sizeLine ∧
  (∀ v, valV kvs k = some v → Q v H3) ∧ (valV kvs k = none → Q z (upd H3 a (.dT (putK kvs k z))))
section
variable {X : Cx} {o e f : Expr} {td ty tx : TE} {apos cpos : Pos}
theorem pe_dsetdT (hu : X.A.units + 1 < cLine) (ho : PE X o td) (he : PE X e ty) (hf : PE X f tx) (m : M2 X o "setdefault" apos e f cpos) : PE X (.Call (.Attribute o "setdefault" apos) [e, f] [] cpos) (tDSetdT td ty tx) := by
  refine ⟨fun pins s σ H Q I h => ?_⟩
  refine wpAny_Call_method m.base m.few m.line PySem.F.plainAttrs_dict PySem.F.slot_dict_setdefault PySem.F.type_dict_setdefault (thn (ho.run pins s σ H _ I h) fun u s1 ⟨x, H1, I1, rx, a, ex, d, q1⟩ => ?_)
  subst ex
  obtain rfl : u = Value.ref a := rx
  obtain ⟨t1, t2, _⟩ := isD_at I1 d
  refine ⟨t1, t2, ?_⟩
  rw [m.trees]
  refine Calls.callWith_builtin rfl (Calls.evalArgs_plain (Calls.spliced_cons (thn (he.run pins s1 σ H1 _ I1 q1) fun iv s2 ⟨y, H2, I2, ry, q2⟩ =>
    Calls.spliced_cons (thn (hf.run pins s2 σ H2 _ I2 q2) fun fv s3 ⟨z, H3, I3, rz, kvs, k, b, ea, ey, eb, hl, q3, q4⟩ => Calls.spliced_nil ?_))))
  subst ey
  obtain rfl : iv = Value.ref b := ry
  exact d_setdT hu I3 ea eb rz hl (fun v hv w' s4 I4 rw' => ⟨v, _, I4, rw', q3 v hv⟩) fun hn w' s4 I4 rw' => ⟨z, _, I4, rw', q4 hn⟩
end
end Dt

set_option Elab.async false
set_option linter.all false
set_option maxRecDepth 100000
set_option maxHeartbeats 2000000
/-! dicts keyed by pairs (a tuple of ints, an int), with objects as values: {}, d[(t, p)] = x at a new key, d.get((t, p)), len(d) -/
namespace Nd
open PySem PySem.Spec PyProof.Rows L2
abbrev Pk : Type := List Int × Int
def nkI (ms : List Int) : List NestedKey := ms.map NestedKey.num
def nk (k : Pk) : NestedKey := .tup [.tup (nkI k.1), .num k.2]
theorem nkI_inj : ∀ {a b : List Int}, nkI a = nkI b → a = b
  | [], [], _ => rfl
  | [], _ :: _, h => by cases h
  | _ :: _, [], h => by cases h
  | x :: a, y :: b, h => by
    have h : NestedKey.num x :: nkI a = NestedKey.num y :: nkI b := h
    injection h with h1 h2
    injection h1 with h1
    rw [h1, nkI_inj h2]
theorem nk_inj {a b : Pk} (h : nk a = nk b) : a = b := by
  unfold nk at h
  injection h with h
  injection h with h1 h2
  injection h1 with h1
  injection h2 with h2 _
  injection h2 with h2
  exact Prod.ext (nkI_inj h1) h2
theorem nkI_deep : ∀ ms : List Int, NestedKey.depthAll (nkI ms) = 0
  | [] => rfl
  | x :: ms => by
    show max (NestedKey.depth (.num x)) (NestedKey.depthAll (nkI ms)) = 0
    rw [nkI_deep ms]
    rfl
theorem nk_deep (k : Pk) : (nk k).depth ≤ 8 := by
  show max (NestedKey.depthAll (nkI k.1) + 1) (max (NestedKey.depth (.num k.2)) 0) + 1 ≤ 8
  rw [nkI_deep]
  show max 1 (max 0 0) + 1 ≤ 8
  decide
theorem nest_ints {h : Heap} : ∀ {ms : List Int} {its : List Value}, Vals (ms.map V.int) its → NestedAll h (nkI ms) its
  | [], _, .nil => .nil
  | _ :: _, _, .cons ⟨t, e⟩ r => by
    subst e
    exact .cons (.int _ _) (nest_ints r)
section
variable {P : Program} {w : World} {H : Hp} {h : Heap}
theorem key_is {b t : Addr} {ms : List Int} {p : Int} (ok : HOk P w H h) (e : H b = some (.tup [.ref t, .int p])) (e2 : H t = some (.tup (ms.map V.int))) : (nestedKind P w).is h (nk (ms, p)) b := by
  obtain ⟨_, its, r, o, h1, h2, n, h3⟩ := (show ObjOk P w H h b (.tup [.ref t, .int p]) from ok b _ e)
  obtain ⟨_, its2, r2, o2, g1, g2, n2, g3⟩ := (show ObjOk P w H h t (.tup (ms.map V.int)) from ok t _ e2)
  refine ⟨?_, nk_deep _⟩
  cases r with
  | cons ra rr =>
    cases rr with
    | cons rb rc =>
      cases rc
      obtain rfl := (show _ = Value.ref t from ra)
      obtain ⟨t', rfl⟩ := rb
      refine .tup h1 h2 h3 ?_
      refine .cons (.tup g1 g2 g3 ?_) (.cons (.int _ _) .nil)
      simpa using nest_ints r2
end
/-- an entry: the key, the tuple that is the key, the value -/
abbrev En : Type := Pk × Addr × Addr
def nx (x : En) : NestedKey × Addr × Value := (nk x.1, x.2.1, .ref x.2.2)
def ndRaw (P : Program) (w : World) (a : Addr) (xs : List En) (h : Heap) : Prop :=
  xs.length ≤ sizeLine ∧ (a == sysModules) = false ∧ ∃ o es ep, h.get? a = some o ∧ o.ExactDict ∧ o.data = .dict es ep ∧ es.toList = (xs.map nx).map (entryOfKey (nestedKind P w)) ∧ ((xs.map nx).map (·.1)).Nodup
def ND (P : Program) (w : World) (a : Addr) (xs : List En) : HO := .ext (ndRaw P w a xs)
def KOk (H : Hp) (xs : List En) : Prop := ∀ x ∈ xs, ∃ t, H x.2.1 = some (.tup [.ref t, .int x.1.2]) ∧ H t = some (.tup (x.1.1.map V.int))
def valN (xs : List En) (k : Pk) : Option Addr := (xs.find? fun x => decide (x.1 = k)).map (·.2.2)
theorem valN_at (k : Pk) : ∀ xs : List En, (atKey (xs.map nx) (nk k)).map (·.2) = (valN xs k).map Value.ref
  | [] => rfl
  | x :: xs => by
    have ih := valN_at k xs
    unfold atKey valN at ih ⊢
    rw [List.map_cons, List.find?_cons, List.find?_cons]
    by_cases e : x.1 = k
    · rw [decide_eq_true (show (nx x).1 = nk k by unfold nx; rw [e]), decide_eq_true e]
      rfl
    · rw [decide_eq_false (show ¬ (nx x).1 = nk k from fun z => e (nk_inj z)), decide_eq_false e]
      exact ih
section
variable {X : Cx} {pins : List (Addr × Obj)} {σ : L2.St} {H : Hp} {s : Shared} {a : Addr}
theorem nd_raw {xs : List En} (I : Inv X pins σ H s) (e : H a = some (ND X.prog X.w a xs)) : ndRaw X.prog X.w a xs s.heap :=
  (show ObjOk X.prog X.w H s.heap a (ND X.prog X.w a xs) from I.hok a _ e).1
theorem nd_at {xs : List En} (I : Inv X pins σ H s) (e : H a = some (ND X.prog X.w a xs)) (hk : KOk H xs) : s.heap.DictOfH (nestedKind X.prog X.w) a (xs.map nx) := by
  obtain ⟨_, _, o, es, ep, h1, h2, h3, h4, h5⟩ := nd_raw I e
  refine ⟨o, es, ep, h1, h2, h3, h4, fun x hx => ?_, h5⟩
  obtain ⟨y, hy, rfl⟩ := List.mem_map.mp hx
  obtain ⟨t, e1, e2⟩ := hk y hy
  exact key_is I.hok e1 e2
theorem nd_type {xs : List En} (I : Inv X pins σ H s) (e : H a = some (ND X.prog X.w a xs)) :
    s.TypeIs (.ref a) "dict" ∧ ∀ b, Value.ref a = .ref b → ∃ ob, s.heap.get? b = some ob ∧ ob.dict = none := by
  obtain ⟨_, _, o, es, ep, h1, h2, h3, h4, h5⟩ := nd_raw I e
  refine ⟨⟨o, h1, h2.1⟩, fun b q => ?_⟩
  cases q
  exact ⟨o, h1, h2.2.1⟩
theorem nd_ok {P : Program} {w : World} {H : Hp} {h : Heap} {xs : List En} (r : ndRaw P w a xs h) : ObjOk P w H h a (ND P w a xs) := by
  obtain ⟨_, _, o, _, _, h1, _⟩ := id r
  refine ⟨r, ⟨o, h1⟩, fun g1 g2 p k => ?_⟩
  obtain ⟨z, y, o, es, ep, h1, h2⟩ := p
  exact ⟨z, y, o, es, ep, k _ h1, h2⟩
theorem in8 {A : Around} (hu : A.units + 64 < cLine) : A.in1.units + 8 < cLine := by
  show A.units + 1 + 8 < cLine
  omega
end
/-- {} -/
def tNew (P : Program) (w : World) : TE := fun _ H Q => ∀ p, H p = none → Q (.ref p) (upd H p (ND P w p []))
section
variable {X : Cx} {pos : Pos}
theorem pe_dnewN : PE X (.Dict [] [] pos) (tNew X.prog X.w) := ⟨fun pins s σ H Q I h =>
  wpAny_Dict_empty ⟨.ref s.heap.objs.size, _, I.laid (a := s.heap.objs.size) (o := ND X.prog X.w s.heap.objs.size []) (t' := s.toks) (fun _ _ q => Heap.get?_push_of_some _ q) (Nat.le_refl _)
    (nd_ok ⟨Nat.zero_le _, beq_eq_false_iff_ne.mpr (Ne.symm (Nat.ne_of_lt I.big)), _, #[], 0, Heap.get?_push_size _ rfl, ⟨rfl, rfl, rfl⟩, rfl, rfl, List.nodup_nil⟩), rfl, h _ (I.hok.fresh (Nat.le_refl _))⟩⟩
end
/-- d[y] = v, y a new key -/
def sPut (P : Program) (w : World) (td ty tv : TE) : TS := fun D σ H => tv σ H fun v H1 => td σ H1 fun x H2 => ty σ H2 fun y H3 =>
  ∃ (a b c t : Addr) (xs : List En) (k : Pk), x = .ref a ∧ v = .ref c ∧ y = .ref b ∧ H3 a = some (ND P w a xs) ∧ KOk H3 xs ∧ H3 b = some (.tup [.ref t, .int k.2]) ∧ H3 t = some (.tup (k.1.map V.int)) ∧ valN xs k = none ∧ xs.length < sizeLine ∧
    D.nx σ (upd H3 a (ND P w a (xs ++ [(k, b, c)])))
section
variable {X : Cx} {o i value : Expr} {td ty tv : TE} {pos pos' : Pos}
theorem ps_put (hu : X.A.units + 64 < cLine) (ho : PE X o td) (hi : PE X i ty) (hv : PE X value tv) (hs : swapsWith value (some (.Subscript o i pos')) pos.line X.env = pure false) :
    PS X (.Assign [.Subscript o i pos'] value pos) (sPut X.prog X.w td ty tv) := by
  refine ⟨fun pins s σ H D I h => ?_⟩
  refine wpAny_Assign_Subscript (thn (hv.run pins s σ H _ I h) fun r s1 ⟨v, H1, I1, rv, q1⟩ => thn (ho.run pins s1 σ H1 _ I1 q1) fun u s2 ⟨x, H2, I2, rx, q2⟩ => thn (hi.run pins s2 σ H2 _ I2 q2) fun iv s3 ⟨y, H3, I3, ry, a, b, c, t, xs, k, ex, ev, ey, ea, hk, eb, et, hn, hl, q3⟩ => ?_) hs
  subst ex ev ey
  obtain rfl : u = Value.ref a := rx
  obtain rfl : r = Value.ref c := rv
  obtain rfl : iv = Value.ref b := ry
  have hat : atKey (xs.map nx) (nk k) = none := by
    have h := valN_at k xs
    rw [hn] at h
    exact Option.map_eq_none_iff.mp h
  refine wpAny_setItem_heap (hsz := by rw [List.length_map]; omega) (in8 hu) (key_is I3.hok eb et) (nd_at I3 ea hk) fun h' dd' hs' => ⟨σ, _, ?_, q3⟩
  rw [show (k.1, k.2) = k from rfl, storedH_new hat] at dd'
  obtain ⟨z, y, _⟩ := nd_raw I3 ea
  obtain ⟨q, es, ep, hq, h2, h3, h4, _, h5⟩ := dd'
  refine d_write I3 (by rw [ea]; exact True.intro) hs' ⟨q, hq⟩ (nd_ok ⟨by rw [List.length_append]; exact hl, y, q, es, ep, hq, h2, h3, ?_, ?_⟩)
  · rw [List.map_append]
    exact h4
  · rw [List.map_append]
    exact h5
end
/-- d.get(y) -/
def tGet (P : Program) (w : World) (td ty : TE) : TE := fun σ H Q => td σ H fun x H1 => ∃ a xs0, x = .ref a ∧ H1 a = some (ND P w a xs0) ∧ ty σ H1 fun y H2 =>
  ∃ (b t : Addr) (xs : List En) (k : Pk), y = .ref b ∧ H2 a = some (ND P w a xs) ∧ KOk H2 xs ∧ H2 b = some (.tup [.ref t, .int k.2]) ∧ H2 t = some (.tup (k.1.map V.int)) ∧ Q (((valN xs k).map V.ref).getD .non) H2
section
variable {X : Cx} {o e : Expr} {td ty : TE} {apos cpos : Pos}
theorem pe_get (hu : X.A.units + 64 < cLine) (ho : PE X o td) (he : PE X e ty) (m : M1 X o "get" apos e cpos) : PE X (.Call (.Attribute o "get" apos) [e] [] cpos) (tGet X.prog X.w td ty) := by
  refine ⟨fun pins s σ H Q I h => ?_⟩
  refine wpAny_Call_method m.base m.few m.line PySem.F.plainAttrs_dict PySem.F.slot_dict_get PySem.F.type_dict_get (thn (ho.run pins s σ H _ I h) fun u s1 ⟨x, H1, I1, rx, a, xs0, ex, d, q1⟩ => ?_)
  subst ex
  obtain rfl : u = Value.ref a := rx
  obtain ⟨t1, t2⟩ := nd_type I1 d
  refine ⟨t1, t2, ?_⟩
  rw [m.trees]
  refine Calls.callWith_builtin rfl (Calls.evalArgs_plain (Calls.spliced_cons (thn (he.run pins s1 σ H1 _ I1 q1) fun iv s2 ⟨y, H2, I2, ry, b, t, xs, k, ey, ea, hk, eb, et, q2⟩ => Calls.spliced_nil ?_)))
  subst ey
  obtain rfl : iv = Value.ref b := ry
  obtain ⟨z, hd, _⟩ := nd_raw I2 ea
  have dd := nd_at I2 ea hk
  refine call_meetsIn PySem.F.slot_dict_get dd.typeIs PySem.F.entry_dict_get (PySem.F.args_dict_get_2 _ _) (meetsH_dict_get (nestedKind X.prog X.w) a b hd) ⟨in8 hu, nk k, xs.map nx, key_is I2.hok eb et, dd, ?_⟩
  rw [valN_at]
  refine ⟨((valN xs k).map V.ref).getD .non, H2, I2.tok _, ?_, q2⟩
  cases valN xs k with
  | none => rfl
  | some c => rfl
end
/-- len(d) -/
def rLenN (P : Program) (w : World) : List V → Hp → VK → Prop := fun xs H Q => ∃ (p : Addr) (es : List En), xs = [.ref p] ∧ H p = some (ND P w p es) ∧ KOk H es ∧ Q (.int ((es.length : Nat) : Int)) H
theorem call_lenN {X : Cx} : CallR X (.builtin "len") (rLenN X.prog X.w) := by
  intro pins s σ H xs us Q I r h
  obtain ⟨p, es, rfl, hp, hk, q⟩ := h
  obtain ⟨u, rfl, rx⟩ := vals1 r
  obtain rfl : u = .ref p := rx
  obtain ⟨z, hd, _⟩ := nd_raw I hp
  refine call_len_dictH hd (nd_at I hp hk) (by rw [List.length_map]; rw [sizeLine_eq] at z; omega) ?_
  rw [List.length_map]
  exact ⟨.int es.length, H, I.tok _, ⟨_, rfl⟩, q⟩
end Nd

set_option Elab.async false
set_option linter.all false
set_option maxRecDepth 100000
set_option maxHeartbeats 2000000
/-! own: the end's facts by addresses that are functions of the heap's part; one Bool for all of them -/
namespace Sh
open PySem PySem.Spec PyProof.Rows L2
section
variable {Kf : PySem.W.Frag}
/-- where things stand -/
def gA (Kf : PySem.W.Frag) (n : Str) : Addr := (match PySem.W.nsIn Kf mainGlobals n with | some (some (.ref z)) => z | _ => 0)
def mA (Kf : PySem.W.Frag) (cl : Addr) (n : Str) : Addr := (match PySem.W.findIn Kf (.ref cl) n with | some (some (.ref z)) => z | _ => 0)
def recA (Kf : PySem.W.Frag) (p : Addr) (n : String) : Addr := (match PySem.W.recIn Kf p n with | some (.ref z :: _) => z | _ => 0)
def recT (Kf : PySem.W.Frag) (p : Addr) (n : String) : List Value := (match PySem.W.recIn Kf p n with | some (_ :: r) => r | _ => [])
def clsA (Kf : PySem.W.Frag) (cl : Addr) (n : Str) : Addr := (match PySem.W.findCls Kf (.ref cl) (.type "type") n with | some (.get _ (.ref z) _ _) => z | _ => 0)
def tokI (Kf : PySem.W.Frag) (o : Addr) (n : Str) : Tok := (match PySem.W.nsIn Kf o n with | some (some (.int _ t)) => t | _ => default)
def tokS (Kf : PySem.W.Frag) (o : Addr) (n : Str) : Tok := (match PySem.W.nsIn Kf o n with | some (some (.str _ t)) => t | _ => default)
def fdA (Kf : PySem.W.Frag) (p : Addr) : Option FuncData := (match Kf.lookup p with | some z => (match z.data with | .func y => some y | _ => none) | none => none)
def kwA (Kf : PySem.W.Frag) (p : Addr) : Addr := (match fdA Kf p with | some y => (match y.kwdefaults with | .ref z => z | _ => 0) | none => 0)
def cdA (Kf : PySem.W.Frag) (p : Addr) : Addr := (match fdA Kf p with | some y => (match y.code with | .ref z => z | _ => 0) | none => 0)
def refB : Value → Bool
  | .ref _ => true
  | _ => false
def noB : Value → Bool
  | .none => true
  | _ => false
end
/-- one function: where it stands, what it is -/
structure FnA where
  pl : PySem.W.Frag → Addr
  nm : Str
  qn : Str
  pr : Arguments
  bd : List Stmt
  sc : Scope
abbrev FV : Type := Option (Str × Str × Arguments × FuncBody × Scope × Addr × List (Str × Addr) × Addr)
def fnV (Kf : PySem.W.Frag) (p : Addr) : FV := (match fdA Kf p with
  | some y => some (y.name, y.qualname, y.params, y.body, y.scope, y.globals, y.closure, y.builtins)
  | none => none)
def FnA.val (d : FnA) : FV := some (d.nm, d.qn, d.pr, FuncBody.stmts d.bd, d.sc, mainGlobals, [], builtinsNs)
/-- kw: its own table of keyword defaults; cd: its code object is named -/
def fnB (Kf : PySem.W.Frag) (p : Addr) (q : Str) (kw : Bool) : Bool := PySem.W.keepIn Kf (.ref p) && (match fdA Kf p with
  | some y => PySem.W.codeIn Kf y.code q && (noB y.defaults && (!kw || refB y.kwdefaults))
  | none => false)
theorem fdA_some {Kf : PySem.W.Frag} {p : Addr} {y : FuncData} (h : fdA Kf p = some y) : ∃ oc od sl, Kf.lookup p = some ⟨oc, od, .func y, sl⟩ := by
  unfold fdA at h
  cases e : Kf.lookup p with
  | none => rw [e] at h; cases h
  | some z =>
    obtain ⟨oc, od, dt, sl⟩ := z
    rw [e] at h
    cases dt with
    | func u =>
      have k : u = y := Option.some.inj h
      exact ⟨oc, od, sl, by rw [k]⟩
    | _ => cases h
theorem fn_any {Kf : PySem.W.Frag} {d : FnA} {p : Addr} {kw : Bool} (e : fnV Kf p = d.val) (c : fnB Kf p d.qn kw = true) :
    PySem.W.keepIn Kf (.ref p) = true ∧ ∃ (y : FuncData) (kV dc pm : Value) (an : Option Addr) (cd ct : Value), fdA Kf p = some y ∧ y = PySem.W.fnOf d.nm d.qn d.pr d.bd d.sc .none kV dc pm an cd ct ∧ PySem.W.codeIn Kf cd d.qn = true ∧ (kw = true → refB kV = true) := by
  obtain ⟨c1, c2⟩ := Bool.and_eq_true_iff.mp c
  refine ⟨c1, ?_⟩
  unfold fnV FnA.val at e
  cases q : fdA Kf p with
  | none => rw [q] at e; cases e
  | some y =>
    rw [q] at e c2
    obtain ⟨x1, x2, x3, x4, x5, x6, x7, x8, x9, x10, x11, x12, x13, x14, x15⟩ := y
    obtain ⟨c3, c4⟩ := Bool.and_eq_true_iff.mp c2
    obtain ⟨c5, c6⟩ := Bool.and_eq_true_iff.mp c4
    have e2 := Option.some.inj e
    simp only [Prod.mk.injEq] at e2
    obtain ⟨r1, r2, r3, r4, r5, r6, r7, r8⟩ := e2
    subst r1 r2 r3 r4 r5 r6 r7 r8
    have n8 : x8 = Value.none := by
      have c5 : noB x8 = true := c5
      cases x8 <;> first | rfl | cases c5
    subst n8
    refine ⟨_, x9, x10, x11, x12, x13, x14, rfl, rfl, c3, fun hk => ?_⟩
    rw [hk] at c6
    exact c6
theorem ref_of {v : Value} (h : refB v = true) : ∃ z, v = .ref z := by
  cases v with
  | ref z => exact ⟨z, rfl⟩
  | _ => cases h
theorem cd_ref {Kf : PySem.W.Frag} {v : Value} {q : Str} (h : PySem.W.codeIn Kf v q = true) : ∃ z, v = .ref z := He.codeIn_ref h
/-- what a function's two rows give: nothing named; its table named; its code object named -/
theorem fn_g {Kf : PySem.W.Frag} {d : FnA} {p : Addr} (e : fnV Kf p = d.val) (c : fnB Kf p d.qn false = true) :
    ∃ (oc : Value) (od : Option Addr) (sl : Array (Option Value)) (kV dc pm : Value) (an : Option Addr) (cd ct : Value), Kf.lookup p = some ⟨oc, od, .func (PySem.W.fnOf d.nm d.qn d.pr d.bd d.sc .none kV dc pm an cd ct), sl⟩ ∧ PySem.W.codeIn Kf cd d.qn = true ∧ PySem.W.keepIn Kf (.ref p) = true := by
  obtain ⟨kp, y, kV, dc, pm, an, cd, ct, hy, rfl, hc, _⟩ := fn_any e c
  obtain ⟨oc, od, sl, hl⟩ := fdA_some hy
  exact ⟨oc, od, sl, kV, dc, pm, an, cd, ct, hl, hc, kp⟩
theorem fn_k {Kf : PySem.W.Frag} {d : FnA} {p : Addr} (e : fnV Kf p = d.val) (c : fnB Kf p d.qn true = true) :
    ∃ (oc : Value) (od : Option Addr) (sl : Array (Option Value)) (dc pm : Value) (an : Option Addr) (cd ct : Value), Kf.lookup p = some ⟨oc, od, .func (PySem.W.fnOf d.nm d.qn d.pr d.bd d.sc .none (.ref (kwA Kf p)) dc pm an cd ct), sl⟩ ∧ PySem.W.codeIn Kf cd d.qn = true ∧ PySem.W.keepIn Kf (.ref p) = true := by
  obtain ⟨kp, y, kV, dc, pm, an, cd, ct, hy, rfl, hc, hk⟩ := fn_any e c
  obtain ⟨z, rfl⟩ := ref_of (hk rfl)
  obtain ⟨oc, od, sl, hl⟩ := fdA_some hy
  have ez : kwA Kf p = z := by unfold kwA; rw [hy]
  rw [ez]
  exact ⟨oc, od, sl, dc, pm, an, cd, ct, hl, hc, kp⟩
theorem fn_c {Kf : PySem.W.Frag} {d : FnA} {p : Addr} (e : fnV Kf p = d.val) (c : fnB Kf p d.qn false = true) :
    ∃ (oc : Value) (od : Option Addr) (sl : Array (Option Value)) (kV dc pm : Value) (an : Option Addr) (ct : Value), Kf.lookup p = some ⟨oc, od, .func (PySem.W.fnOf d.nm d.qn d.pr d.bd d.sc .none kV dc pm an (.ref (cdA Kf p)) ct), sl⟩ ∧ PySem.W.codeIn Kf (.ref (cdA Kf p)) d.qn = true ∧ PySem.W.keepIn Kf (.ref p) = true := by
  obtain ⟨kp, y, kV, dc, pm, an, cd, ct, hy, rfl, hc, _⟩ := fn_any e c
  obtain ⟨z, rfl⟩ := cd_ref hc
  obtain ⟨oc, od, sl, hl⟩ := fdA_some hy
  have ez : cdA Kf p = z := by unfold cdA; rw [hy]
  rw [ez]
  exact ⟨oc, od, sl, kV, dc, pm, an, ct, hl, hc, kp⟩
theorem fn_kc {Kf : PySem.W.Frag} {d : FnA} {p : Addr} (e : fnV Kf p = d.val) (c : fnB Kf p d.qn true = true) :
    ∃ (oc : Value) (od : Option Addr) (sl : Array (Option Value)) (dc pm : Value) (an : Option Addr) (ct : Value), Kf.lookup p = some ⟨oc, od, .func (PySem.W.fnOf d.nm d.qn d.pr d.bd d.sc .none (.ref (kwA Kf p)) dc pm an (.ref (cdA Kf p)) ct), sl⟩ ∧ PySem.W.codeIn Kf (.ref (cdA Kf p)) d.qn = true ∧ PySem.W.keepIn Kf (.ref p) = true := by
  obtain ⟨kp, y, kV, dc, pm, an, cd, ct, hy, rfl, hc, hk⟩ := fn_any e c
  obtain ⟨z, rfl⟩ := ref_of (hk rfl)
  obtain ⟨u, rfl⟩ := cd_ref hc
  obtain ⟨oc, od, sl, hl⟩ := fdA_some hy
  have ez : kwA Kf p = z := by unfold kwA; rw [hy]
  have eu : cdA Kf p = u := by unfold cdA; rw [hy]
  rw [ez, eu]
  exact ⟨oc, od, sl, dc, pm, an, ct, hl, hc, kp⟩
/-- a class's own maker -/
def ofB (Kf : PySem.W.Frag) (cl p : Addr) (n : Str) : Bool := (match PySem.W.findCls Kf (.ref cl) (.type "type") n with | some (.get (.builtin x) (.ref y) .none (.ref z)) => decide (x = "classmethod.__get__") && (decide (y = p) && decide (z = cl)) | _ => false)
theorem ofB_ok {Kf : PySem.W.Frag} {cl p : Addr} {n : Str} (h : ofB Kf cl p n = true) : PySem.W.findCls Kf (.ref cl) (.type "type") n = some (.get (.builtin "classmethod.__get__") (.ref p) .none (.ref cl)) := by
  unfold ofB at h
  split at h
  · rename_i x y z e
    obtain ⟨h1, h2⟩ := Bool.and_eq_true_iff.mp h
    obtain ⟨h3, h4⟩ := Bool.and_eq_true_iff.mp h2
    rw [e, of_decide_eq_true h1, of_decide_eq_true h3, of_decide_eq_true h4]
  · cases h
/-! ### the hook -/
def tabB (g : Addr → Option Obj) (Kf : PySem.W.Frag) (p : Addr × Addr) : Bool := PySem.W.codeHdIn Kf p.1 p.2 && (match g p.2 with | some z => He.emptyTab z | none => false)
abbrev AlA : Type := List FV × Bool
section
variable (as : List Addr) (fs : List FnA) (ex : PySem.W.Frag → Bool) (tf : PySem.W.Frag → List (Addr × Addr))
def obA (Kf : PySem.W.Frag) (g : Addr → Option Obj) : AlA := (fs.map fun d => fnV Kf (d.pl Kf), ex Kf && (tf Kf).all (tabB g Kf))
def obG (g : Addr → Option Obj) : AlA := obA fs ex tf (He.frT g as) g
structure Tells (h : Heap) (Kf : PySem.W.Frag) : Prop where
  fn : ∀ d ∈ fs, fnV Kf (d.pl Kf) = d.val
  ex : ex Kf = true
  hd : ∀ p ∈ tf Kf, PySem.W.codeHdIn Kf p.1 p.2 = true
  out : ∀ p ∈ tf Kf, Kf.lookup p.2 = none
  em : ∀ p ∈ tf Kf, h.get? p.2 = some (PySem.W.tabObj #[])
variable {as fs ex tf}
theorem map_all {α β : Type} {f g : α → β} : ∀ {l : List α}, l.map f = l.map g → ∀ x ∈ l, f x = g x
  | [], _, _, hx => absurd hx List.not_mem_nil
  | a :: r, h, x, hx => by
    rw [List.map_cons, List.map_cons] at h
    injection h with h1 h2
    rcases List.mem_cons.mp hx with rfl | hx
    · exact h1
    · exact map_all h2 x hx
theorem tells_of {h : Heap} (e : obG as fs ex tf h.get? = (fs.map FnA.val, true)) : Tells fs ex tf h (He.frT h.get? as) := by
  have e1 := congrArg Prod.fst e
  have e2 := congrArg Prod.snd e
  obtain ⟨b1, b2⟩ := Bool.and_eq_true_iff.mp (show (ex (He.frT h.get? as) && (tf (He.frT h.get? as)).all (tabB h.get? (He.frT h.get? as))) = true from e2)
  have key : ∀ p ∈ tf (He.frT h.get? as), PySem.W.codeHdIn (He.frT h.get? as) p.1 p.2 = true ∧ ∃ z, h.get? p.2 = some z ∧ He.emptyTab z = true := fun p hp => by
    obtain ⟨b3, b4⟩ := Bool.and_eq_true_iff.mp (List.all_eq_true.mp b2 p hp)
    refine ⟨b3, ?_⟩
    cases q : h.get? p.2 with
    | none => rw [q] at b4; cases b4
    | some z => rw [q] at b4; exact ⟨z, rfl, b4⟩
  refine ⟨map_all e1, b1, fun p hp => (key p hp).1, fun p hp => ?_, fun p hp => ?_⟩
  · obtain ⟨_, z, hz, k⟩ := key p hp
    exact He.frT_none hz k
  · obtain ⟨_, z, hz, k⟩ := key p hp
    rw [hz, He.emptyTab_eq k]
variable (as fs ex tf)
def hook : PySem.W.Hook where
  α := AlA
  obs := fun s => obG as fs ex tf s.heap.get?
  val := fun _ => (fs.map FnA.val, true)
  says := fun _ h => ∃ Kf : PySem.W.Frag, Kf.In h ∧ Tells fs ex tf h Kf
  of := fun _ _ e => ⟨_, He.frT_in, tells_of e⟩
  keeps := fun _ _ _ ⟨Kf, i, t⟩ k => ⟨Kf, PySem.W.Frag.In.keeps i k, ⟨t.fn, t.ex, t.hd, t.out, fun p hp => k _ _ (t.em p hp)⟩⟩
def obT (s : PySem.W.SharedT) : AlA := obG as fs ex tf (HandSHeadRun.getT s)
theorem obT_eq (s : PySem.W.SharedT) : obT as fs ex tf s = (hook as fs ex tf).obs s.abs := by
  have e : HandSHeadRun.getT s = s.abs.heap.get? := funext (HandSHeadRun.getT_eq s)
  show obG as fs ex tf (HandSHeadRun.getT s) = obG as fs ex tf s.abs.heap.get?
  rw [e]
end
theorem at_ {α : Type} {l : List α} {d : α} (i : Nat) (h : l[i]? = some d) : d ∈ l := List.mem_of_getElem? h
theorem band {a b : Bool} (h : (a && b) = true) : a = true ∧ b = true := Bool.and_eq_true_iff.mp h
end Sh

set_option Elab.async false
set_option linter.all false
set_option maxRecDepth 100000
set_option maxHeartbeats 2000000
namespace Tw
open PySem PySem.Spec PyProof.Rows L2
def topS (i : Nat) : Stmt := PySem.Challenge.pw_heaprows_k24_whole_takings.main.body.getD i (.Pass ⟨0, 0, 0, 0⟩)
abbrev s_is_integer : Stmt := topS 17
theorem sc_is_integer : FnScope ["thing"] ["thing"] (defScope s_is_integer) := ⟨rfl, rfl, rfl, by decide +kernel, rfl, by decide +kernel, by decide +kernel⟩
abbrev s_is_integer_from : Stmt := topS 18
theorem sc_is_integer_from : FnScope ["thing", "least", "greatest"] ["thing", "least", "greatest"] (defScope s_is_integer_from) := ⟨rfl, rfl, rfl, by decide +kernel, rfl, by decide +kernel, by decide +kernel⟩
abbrev s_is_key : Stmt := topS 19
theorem sc_is_key : FnScope ["thing"] ["thing"] (defScope s_is_key) := ⟨rfl, rfl, rfl, by decide +kernel, rfl, by decide +kernel, by decide +kernel⟩
abbrev s_check_arms : Stmt := topS 20
theorem sc_check_arms : FnScope ["arms"] ["arms"] (defScope s_check_arms) := ⟨rfl, rfl, rfl, by decide +kernel, rfl, by decide +kernel, by decide +kernel⟩
abbrev s_check_many : Stmt := topS 21
theorem sc_check_many : FnScope ["many"] ["many"] (defScope s_check_many) := ⟨rfl, rfl, rfl, by decide +kernel, rfl, by decide +kernel, by decide +kernel⟩
abbrev s_check_place : Stmt := topS 22
theorem sc_check_place : FnScope ["place", "many"] ["place", "many"] (defScope s_check_place) := ⟨rfl, rfl, rfl, by decide +kernel, rfl, by decide +kernel, by decide +kernel⟩
abbrev s_check_key : Stmt := topS 23
theorem sc_check_key : FnScope ["key"] ["key"] (defScope s_check_key) := ⟨rfl, rfl, rfl, by decide +kernel, rfl, by decide +kernel, by decide +kernel⟩
abbrev s_row_of : Stmt := topS 24
theorem sc_row_of : FnScope ["row", "index", "key"] ["row"] (defScope s_row_of) := ⟨rfl, rfl, rfl, by decide +kernel, rfl, by decide +kernel, by decide +kernel⟩
abbrev s_check_different : Stmt := topS 25
theorem sc_check_different : FnScope ["keys", "place", "key"] ["keys"] (defScope s_check_different) := ⟨rfl, rfl, rfl, by decide +kernel, rfl, by decide +kernel, by decide +kernel⟩
abbrev s_t___init__ : Stmt := inClass (topS 27) 0
theorem sc_t___init__ : FnScope ["self", "many", "arms"] ["self", "many", "arms"] (defScope s_t___init__) := ⟨rfl, rfl, rfl, by decide +kernel, rfl, by decide +kernel, by decide +kernel⟩
abbrev s_t_of : Stmt := inClass (topS 27) 1
theorem sc_t_of : FnScope ["cls", "row", "arms"] ["cls", "row", "arms"] (defScope s_t_of) := ⟨rfl, rfl, rfl, by decide +kernel, rfl, by decide +kernel, by decide +kernel⟩
abbrev s_t___len__ : Stmt := inClass (topS 27) 2
theorem sc_t___len__ : FnScope ["self"] ["self"] (defScope s_t___len__) := ⟨rfl, rfl, rfl, by decide +kernel, rfl, by decide +kernel, by decide +kernel⟩
abbrev s_t___iter__ : Stmt := inClass (topS 27) 4
theorem sc_t___iter__ : FnScope ["self"] ["self"] (defScope s_t___iter__) := ⟨rfl, rfl, rfl, by decide +kernel, rfl, by decide +kernel, by decide +kernel⟩
abbrev s_t___getitem__ : Stmt := inClass (topS 27) 5
theorem sc_t___getitem__ : FnScope ["self", "place", "first"] ["self", "place"] (defScope s_t___getitem__) := ⟨rfl, rfl, rfl, by decide +kernel, rfl, by decide +kernel, by decide +kernel⟩
abbrev s_t_parent : Stmt := inClass (topS 27) 7
theorem sc_t_parent : FnScope ["self", "place"] ["self", "place"] (defScope s_t_parent) := ⟨rfl, rfl, rfl, by decide +kernel, rfl, by decide +kernel, by decide +kernel⟩
abbrev s_t_way_to : Stmt := inClass (topS 27) 8
theorem sc_t_way_to : FnScope ["self", "place", "way", "above"] ["self", "place"] (defScope s_t_way_to) := ⟨rfl, rfl, rfl, by decide +kernel, rfl, by decide +kernel, by decide +kernel⟩
abbrev s_t_depth : Stmt := inClass (topS 27) 9
theorem sc_t_depth : FnScope ["self", "place"] ["self", "place"] (defScope s_t_depth) := ⟨rfl, rfl, rfl, by decide +kernel, rfl, by decide +kernel, by decide +kernel⟩
abbrev s_t_size : Stmt := inClass (topS 27) 10
theorem sc_t_size : FnScope ["self", "place"] ["self", "place"] (defScope s_t_size) := ⟨rfl, rfl, rfl, by decide +kernel, rfl, by decide +kernel, by decide +kernel⟩
abbrev s_t_subtree : Stmt := inClass (topS 27) 12
theorem sc_t_subtree : FnScope ["self", "place", "below"] ["self", "place"] (defScope s_t_subtree) := ⟨rfl, rfl, rfl, by decide +kernel, rfl, by decide +kernel, by decide +kernel⟩
abbrev s_is_heap : Stmt := topS 29
theorem sc_is_heap : FnScope ["row", "arms"] ["row", "arms"] (defScope s_is_heap) := ⟨rfl, rfl, rfl, by decide +kernel, rfl, by decide +kernel, by decide +kernel⟩
abbrev s_faults : Stmt := topS 30
theorem sc_faults : FnScope ["row", "arms", "tree", "place"] ["row", "arms"] (defScope s_faults) := ⟨rfl, rfl, rfl, by decide +kernel, rfl, by decide +kernel, by decide +kernel⟩
abbrev s_heap_of : Stmt := topS 31
theorem sc_heap_of : FnScope ["row", "arms", "wrong"] ["row", "arms"] (defScope s_heap_of) := ⟨rfl, rfl, rfl, by decide +kernel, rfl, by decide +kernel, by decide +kernel⟩
abbrev s_different_heap_of : Stmt := topS 32
theorem sc_different_heap_of : FnScope ["row", "arms", "heap"] ["row", "arms"] (defScope s_different_heap_of) := ⟨rfl, rfl, rfl, by decide +kernel, rfl, by decide +kernel, by decide +kernel⟩
abbrev s_how_many : Stmt := topS 34
theorem sc_how_many : FnScope ["many", "arms", "tree", "product_of_sizes", "place"] ["many", "arms"] (defScope s_how_many) := ⟨rfl, rfl, rfl, by decide +kernel, rfl, by decide +kernel, by decide +kernel⟩
abbrev s_z___init__ : Stmt := inClass (topS 36) 0
theorem sc_z___init__ : FnScope ["self", "row", "way", "looks"] ["self", "row", "way", "looks"] (defScope s_z___init__) := ⟨rfl, rfl, rfl, by decide +kernel, rfl, by decide +kernel, by decide +kernel⟩
abbrev s_sift_down : Stmt := topS 37
theorem sc_sift_down : FnScope ["row", "place", "arms", "tree", "children", "keys", "way", "looks", "here", "child"] ["row", "place", "arms"] (defScope s_sift_down) := ⟨rfl, rfl, rfl, by decide +kernel, rfl, by decide +kernel, by decide +kernel⟩
abbrev s_least_child : Stmt := topS 38
theorem sc_least_child : FnScope ["keys", "children"] ["keys", "children"] (defScope s_least_child) := ⟨rfl, rfl, rfl, by decide +kernel, rfl, by decide +kernel, by decide +kernel⟩
abbrev s_row_before : Stmt := topS 39
theorem sc_row_before : FnScope ["row", "way", "keys", "place", "after"] ["row", "way"] (defScope s_row_before) := ⟨rfl, rfl, rfl, by decide +kernel, rfl, by decide +kernel, by decide +kernel⟩
abbrev s_take : Stmt := topS 41
theorem sc_take : FnScope ["row", "arms", "heap"] ["row", "arms"] (defScope s_take) := ⟨rfl, rfl, rfl, by decide +kernel, rfl, by decide +kernel, by decide +kernel⟩
abbrev s_filled_heap_of : Stmt := topS 42
theorem sc_filled_heap_of : FnScope ["row", "arms", "heap"] ["row", "arms"] (defScope s_filled_heap_of) := ⟨rfl, rfl, rfl, by decide +kernel, rfl, by decide +kernel, by decide +kernel⟩
abbrev s_check_filled : Stmt := topS 43
theorem sc_check_filled : FnScope ["heap"] ["heap"] (defScope s_check_filled) := ⟨rfl, rfl, rfl, by decide +kernel, rfl, by decide +kernel, by decide +kernel⟩
abbrev s_q___init__ : Stmt := inClass (topS 45) 0
theorem sc_q___init__ : FnScope ["self", "row"] ["self", "row"] (defScope s_q___init__) := ⟨rfl, rfl, rfl, by decide +kernel, rfl, by decide +kernel, by decide +kernel⟩
abbrev s_q_shows : Stmt := inClass (topS 45) 2
theorem sc_q_shows : FnScope ["self", "row", "least", "place", "arms", "heap", "key", "sift"] ["self", "row", "least", "place", "arms"] (defScope s_q_shows) := ⟨rfl, rfl, rfl, by decide +kernel, rfl, by decide +kernel, by decide +kernel⟩
abbrev s_v___init__ : Stmt := inClass (topS 46) 0
theorem sc_v___init__ : FnScope ["self", "place", "key"] ["self", "place", "key"] (defScope s_v___init__) := ⟨rfl, rfl, rfl, by decide +kernel, rfl, by decide +kernel, by decide +kernel⟩
abbrev s_v_shows : Stmt := inClass (topS 46) 2
theorem sc_v_shows : FnScope ["self", "row", "least", "place", "arms", "heap", "over"] ["self", "row", "least", "place", "arms"] (defScope s_v_shows) := ⟨rfl, rfl, rfl, by decide +kernel, rfl, by decide +kernel, by decide +kernel⟩
abbrev s_undo_take : Stmt := topS 47
theorem sc_undo_take : FnScope ["row", "least", "place", "arms", "heap", "over", "before"] ["row", "least", "place", "arms"] (defScope s_undo_take) := ⟨rfl, rfl, rfl, by decide +kernel, rfl, by decide +kernel, by decide +kernel⟩
abbrev s_places_behind : Stmt := topS 48
theorem sc_places_behind : FnScope ["row", "arms", "heap", "over", "place", "key"] ["row", "arms"] (defScope s_places_behind) := ⟨rfl, rfl, rfl, by decide +kernel, rfl, by decide +kernel, by decide +kernel⟩
abbrev s_heap_with_room : Stmt := topS 49
theorem sc_heap_with_room : FnScope ["row", "arms", "heap"] ["row", "arms"] (defScope s_heap_with_room) := ⟨rfl, rfl, rfl, by decide +kernel, rfl, by decide +kernel, by decide +kernel⟩
abbrev s_heap_after : Stmt := topS 50
theorem sc_heap_after : FnScope ["row", "least", "place", "arms", "heap"] ["row", "least", "place", "arms"] (defScope s_heap_after) := ⟨rfl, rfl, rfl, by decide +kernel, rfl, by decide +kernel, by decide +kernel⟩
abbrev s_place_over_next : Stmt := topS 51
theorem sc_place_over_next : FnScope ["heap", "arms"] ["heap", "arms"] (defScope s_place_over_next) := ⟨rfl, rfl, rfl, by decide +kernel, rfl, by decide +kernel, by decide +kernel⟩
abbrev s__law_number : Stmt := topS 53
theorem sc__law_number : FnScope ["script", "index", "cells", "cell", "low", "high", "total", "blend"] ["script", "index"] (defScope s__law_number) := ⟨rfl, rfl, rfl, by decide +kernel, rfl, by decide +kernel, by decide +kernel⟩
abbrev s__law_take : Stmt := topS 54
theorem sc__law_take : FnScope ["draw", "many"] ["draw", "many"] (defScope s__law_take) := ⟨rfl, rfl, rfl, by decide +kernel, rfl, by decide +kernel, by decide +kernel⟩
abbrev s__law_pick : Stmt := topS 55
theorem sc__law_pick : FnScope ["draw", "things"] ["draw", "things"] (defScope s__law_pick) := ⟨rfl, rfl, rfl, by decide +kernel, rfl, by decide +kernel, by decide +kernel⟩
abbrev s__law_parent : Stmt := topS 56
theorem sc__law_parent : FnScope ["wide", "place"] ["wide", "place"] (defScope s__law_parent) := ⟨rfl, rfl, rfl, by decide +kernel, rfl, by decide +kernel, by decide +kernel⟩
abbrev s__law_children : Stmt := topS 57
theorem sc__law_children : FnScope ["wide", "many", "place", "other"] ["wide", "many", "place"] (defScope s__law_children) := ⟨rfl, rfl, rfl, by decide +kernel, rfl, by decide +kernel, by decide +kernel⟩
abbrev s__law_way : Stmt := topS 58
theorem sc__law_way : FnScope ["wide", "place", "way", "lap"] ["wide", "place"] (defScope s__law_way) := ⟨rfl, rfl, rfl, by decide +kernel, rfl, by decide +kernel, by decide +kernel⟩
abbrev s__law_arms : Stmt := topS 59
theorem sc__law_arms : FnScope ["draw"] ["draw"] (defScope s__law_arms) := ⟨rfl, rfl, rfl, by decide +kernel, rfl, by decide +kernel, by decide +kernel⟩
abbrev s__law_order : Stmt := topS 60
theorem sc__law_order : FnScope ["draw", "many", "left", "order", "turn"] ["draw", "many"] (defScope s__law_order) := ⟨rfl, rfl, rfl, by decide +kernel, rfl, by decide +kernel, by decide +kernel⟩
abbrev s__law_is_heap : Stmt := topS 61
theorem sc__law_is_heap : FnScope ["row", "wide", "place", "above"] ["row", "wide"] (defScope s__law_is_heap) := ⟨rfl, rfl, rfl, by decide +kernel, rfl, by decide +kernel, by decide +kernel⟩
abbrev s__law_lists : Stmt := topS 62
theorem sc__law_lists : FnScope ["keys", "found", "at", "key", "rest", "row"] ["keys"] (defScope s__law_lists) := ⟨rfl, rfl, rfl, by decide +kernel, rfl, by decide +kernel, by decide +kernel⟩
abbrev s__law_heaps : Stmt := topS 63
theorem sc__law_heaps : FnScope ["keys", "wide", "row"] ["keys", "wide"] (defScope s__law_heaps) := ⟨rfl, rfl, rfl, by decide +kernel, rfl, by decide +kernel, by decide +kernel⟩
abbrev s__law_down : Stmt := topS 64
theorem sc__law_down : FnScope ["row", "wide", "place", "late", "way", "looks", "lap", "below", "least", "other"] ["row", "wide", "place"] (defScope s__law_down) := ⟨rfl, rfl, rfl, by decide +kernel, rfl, by decide +kernel, by decide +kernel⟩
abbrev s__law_out : Stmt := topS 65
theorem sc__law_out : FnScope ["row", "wide"] ["row", "wide"] (defScope s__law_out) := ⟨rfl, rfl, rfl, by decide +kernel, rfl, by decide +kernel, by decide +kernel⟩
abbrev s__law_unlike : Stmt := topS 66
theorem sc__law_unlike : FnScope ["draw", "many", "low", "step", "number"] ["draw", "many"] (defScope s__law_unlike) := ⟨rfl, rfl, rfl, by decide +kernel, rfl, by decide +kernel, by decide +kernel⟩
abbrev s_law : Stmt := topS 67
theorem sc_law : FnScope ["script", "draw", "wide", "many", "keys", "least", "rows", "row", "late", "way", "looks", "count", "heap", "able", "place", "found", "due", "one"] ["script"] (defScope s_law) := ⟨rfl, rfl, rfl, by decide +kernel, rfl, by decide +kernel, by decide +kernel⟩
/-- where the text's defs stand -/
structure Ad where
  f_is_integer : Addr
  d_is_integer : FuncData
  f_is_integer_from : Addr
  d_is_integer_from : FuncData
  f_is_key : Addr
  d_is_key : FuncData
  f_check_arms : Addr
  d_check_arms : FuncData
  f_check_many : Addr
  d_check_many : FuncData
  f_check_place : Addr
  d_check_place : FuncData
  f_check_key : Addr
  d_check_key : FuncData
  f_row_of : Addr
  d_row_of : FuncData
  f_check_different : Addr
  d_check_different : FuncData
  f_t___init__ : Addr
  d_t___init__ : FuncData
  f_t_of : Addr
  d_t_of : FuncData
  f_t___len__ : Addr
  d_t___len__ : FuncData
  f_t___iter__ : Addr
  d_t___iter__ : FuncData
  f_t___getitem__ : Addr
  d_t___getitem__ : FuncData
  f_t_parent : Addr
  d_t_parent : FuncData
  f_t_way_to : Addr
  d_t_way_to : FuncData
  f_t_depth : Addr
  d_t_depth : FuncData
  f_t_size : Addr
  d_t_size : FuncData
  f_t_subtree : Addr
  d_t_subtree : FuncData
  f_is_heap : Addr
  d_is_heap : FuncData
  f_faults : Addr
  d_faults : FuncData
  f_heap_of : Addr
  d_heap_of : FuncData
  f_different_heap_of : Addr
  d_different_heap_of : FuncData
  f_how_many : Addr
  d_how_many : FuncData
  f_z___init__ : Addr
  d_z___init__ : FuncData
  f_sift_down : Addr
  d_sift_down : FuncData
  f_least_child : Addr
  d_least_child : FuncData
  f_row_before : Addr
  d_row_before : FuncData
  f_take : Addr
  d_take : FuncData
  f_filled_heap_of : Addr
  d_filled_heap_of : FuncData
  f_check_filled : Addr
  d_check_filled : FuncData
  f_q___init__ : Addr
  d_q___init__ : FuncData
  f_q_shows : Addr
  d_q_shows : FuncData
  f_v___init__ : Addr
  d_v___init__ : FuncData
  f_v_shows : Addr
  d_v_shows : FuncData
  f_undo_take : Addr
  d_undo_take : FuncData
  f_places_behind : Addr
  d_places_behind : FuncData
  f_heap_with_room : Addr
  d_heap_with_room : FuncData
  f_heap_after : Addr
  d_heap_after : FuncData
  f_place_over_next : Addr
  d_place_over_next : FuncData
  f__law_number : Addr
  d__law_number : FuncData
  f__law_take : Addr
  d__law_take : FuncData
  f__law_pick : Addr
  d__law_pick : FuncData
  f__law_parent : Addr
  d__law_parent : FuncData
  f__law_children : Addr
  d__law_children : FuncData
  f__law_way : Addr
  d__law_way : FuncData
  f__law_arms : Addr
  d__law_arms : FuncData
  f__law_order : Addr
  d__law_order : FuncData
  f__law_is_heap : Addr
  d__law_is_heap : FuncData
  f__law_lists : Addr
  d__law_lists : FuncData
  f__law_heaps : Addr
  d__law_heaps : FuncData
  f__law_down : Addr
  d__law_down : FuncData
  f__law_out : Addr
  d__law_out : FuncData
  f__law_unlike : Addr
  d__law_unlike : FuncData
  f_law : Addr
  d_law : FuncData
  C : Addr
  po : Addr
  CS : Addr
  CQ : Addr
  CV : Addr
  c_least_child : Addr
  P_least_child : Addr
/-- what the top has written -/
structure Tx (K : PySem.W.Frag) (mg : Str → Option Value) (A : Ad) : Prop where
  F_is_integer : Fun K "is_integer" "is_integer" s_is_integer A.f_is_integer A.d_is_integer
  m_is_integer : mg "is_integer" = some (.ref A.f_is_integer)
  F_is_integer_from : Fun K "is_integer_from" "is_integer_from" s_is_integer_from A.f_is_integer_from A.d_is_integer_from
  m_is_integer_from : mg "is_integer_from" = some (.ref A.f_is_integer_from)
  F_is_key : Fun K "is_key" "is_key" s_is_key A.f_is_key A.d_is_key
  m_is_key : mg "is_key" = some (.ref A.f_is_key)
  F_check_arms : Fun K "check_arms" "check_arms" s_check_arms A.f_check_arms A.d_check_arms
  m_check_arms : mg "check_arms" = some (.ref A.f_check_arms)
  F_check_many : Fun K "check_many" "check_many" s_check_many A.f_check_many A.d_check_many
  m_check_many : mg "check_many" = some (.ref A.f_check_many)
  F_check_place : Fun K "check_place" "check_place" s_check_place A.f_check_place A.d_check_place
  m_check_place : mg "check_place" = some (.ref A.f_check_place)
  F_check_key : Fun K "check_key" "check_key" s_check_key A.f_check_key A.d_check_key
  m_check_key : mg "check_key" = some (.ref A.f_check_key)
  F_row_of : Fun K "row_of" "row_of" s_row_of A.f_row_of A.d_row_of
  m_row_of : mg "row_of" = some (.ref A.f_row_of)
  F_check_different : Fun K "check_different" "check_different" s_check_different A.f_check_different A.d_check_different
  m_check_different : mg "check_different" = some (.ref A.f_check_different)
  F_t___init__ : FunD K "__init__" "Tree.__init__" (defArgs s_t___init__) (defBody s_t___init__) (defScope s_t___init__) [] [("arms", V.int 2)] A.f_t___init__ A.d_t___init__
  F_t_of : FunD K "of" "Tree.of" (defArgs s_t_of) (defBody s_t_of) (defScope s_t_of) [] [("arms", V.int 2)] A.f_t_of A.d_t_of
  F_t___len__ : Fun K "__len__" "Tree.__len__" s_t___len__ A.f_t___len__ A.d_t___len__
  D_t___len__ : Dn K A.C "__len__" A.f_t___len__
  F_t___iter__ : Fun K "__iter__" "Tree.__iter__" s_t___iter__ A.f_t___iter__ A.d_t___iter__
  D_t___iter__ : Dn K A.C "__iter__" A.f_t___iter__
  F_t___getitem__ : Fun K "__getitem__" "Tree.__getitem__" s_t___getitem__ A.f_t___getitem__ A.d_t___getitem__
  D_t___getitem__ : Dn K A.C "__getitem__" A.f_t___getitem__
  F_t_parent : Fun K "parent" "Tree.parent" s_t_parent A.f_t_parent A.d_t_parent
  M_t_parent : Meth K A.C "parent" A.f_t_parent
  F_t_way_to : Fun K "way_to" "Tree.way_to" s_t_way_to A.f_t_way_to A.d_t_way_to
  M_t_way_to : Meth K A.C "way_to" A.f_t_way_to
  F_t_depth : Fun K "depth" "Tree.depth" s_t_depth A.f_t_depth A.d_t_depth
  M_t_depth : Meth K A.C "depth" A.f_t_depth
  F_t_size : Fun K "size" "Tree.size" s_t_size A.f_t_size A.d_t_size
  M_t_size : Meth K A.C "size" A.f_t_size
  F_t_subtree : Fun K "subtree" "Tree.subtree" s_t_subtree A.f_t_subtree A.d_t_subtree
  M_t_subtree : Meth K A.C "subtree" A.f_t_subtree
  F_is_heap : FunD K "is_heap" "is_heap" (defArgs s_is_heap) (defBody s_is_heap) (defScope s_is_heap) [] [("arms", V.int 2)] A.f_is_heap A.d_is_heap
  m_is_heap : mg "is_heap" = some (.ref A.f_is_heap)
  F_faults : FunD K "faults" "faults" (defArgs s_faults) (defBody s_faults) (defScope s_faults) [] [("arms", V.int 2)] A.f_faults A.d_faults
  m_faults : mg "faults" = some (.ref A.f_faults)
  F_heap_of : Fun K "heap_of" "heap_of" s_heap_of A.f_heap_of A.d_heap_of
  m_heap_of : mg "heap_of" = some (.ref A.f_heap_of)
  F_different_heap_of : Fun K "different_heap_of" "different_heap_of" s_different_heap_of A.f_different_heap_of A.d_different_heap_of
  m_different_heap_of : mg "different_heap_of" = some (.ref A.f_different_heap_of)
  F_how_many : FunD K "how_many" "how_many" (defArgs s_how_many) (defBody s_how_many) (defScope s_how_many) [] [("arms", V.int 2)] A.f_how_many A.d_how_many
  m_how_many : mg "how_many" = some (.ref A.f_how_many)
  F_z___init__ : Fun K "__init__" "Sift.__init__" s_z___init__ A.f_z___init__ A.d_z___init__
  F_sift_down : FunD K "sift_down" "sift_down" (defArgs s_sift_down) (defBody s_sift_down) (defScope s_sift_down) [] [("arms", V.int 2)] A.f_sift_down A.d_sift_down
  m_sift_down : mg "sift_down" = some (.ref A.f_sift_down)
  L_least_child : ∃ (oc : Value) (od : Option Addr) (kV doc pm : Value) (an : Option Addr) (ct : Value) (osl : Array (Option Value)), A.d_least_child = PySem.W.fnOf "least_child" "least_child" (defArgs s_least_child) (defBody s_least_child) (defScope s_least_child) .none kV doc pm an (.ref A.c_least_child) ct ∧ K.lookup A.f_least_child = some ⟨oc, od, .func A.d_least_child, osl⟩ ∧ PySem.W.codeIn K (.ref A.c_least_child) "least_child" = true
  F_least_child : Fun K "least_child" "least_child" s_least_child A.f_least_child A.d_least_child
  m_least_child : mg "least_child" = some (.ref A.f_least_child)
  F_row_before : Fun K "row_before" "row_before" s_row_before A.f_row_before A.d_row_before
  m_row_before : mg "row_before" = some (.ref A.f_row_before)
  F_take : FunD K "take" "take" (defArgs s_take) (defBody s_take) (defScope s_take) [] [("arms", V.int 2)] A.f_take A.d_take
  m_take : mg "take" = some (.ref A.f_take)
  F_filled_heap_of : Fun K "filled_heap_of" "filled_heap_of" s_filled_heap_of A.f_filled_heap_of A.d_filled_heap_of
  m_filled_heap_of : mg "filled_heap_of" = some (.ref A.f_filled_heap_of)
  F_check_filled : Fun K "check_filled" "check_filled" s_check_filled A.f_check_filled A.d_check_filled
  m_check_filled : mg "check_filled" = some (.ref A.f_check_filled)
  F_q___init__ : Fun K "__init__" "Before.__init__" s_q___init__ A.f_q___init__ A.d_q___init__
  F_q_shows : FunD K "shows" "Before.shows" (defArgs s_q_shows) (defBody s_q_shows) (defScope s_q_shows) [] [("arms", V.int 2)] A.f_q_shows A.d_q_shows
  M_q_shows : Meth K A.CQ "shows" A.f_q_shows
  F_v___init__ : Fun K "__init__" "Over.__init__" s_v___init__ A.f_v___init__ A.d_v___init__
  F_v_shows : FunD K "shows" "Over.shows" (defArgs s_v_shows) (defBody s_v_shows) (defScope s_v_shows) [] [("arms", V.int 2)] A.f_v_shows A.d_v_shows
  M_v_shows : Meth K A.CV "shows" A.f_v_shows
  F_undo_take : FunD K "undo_take" "undo_take" (defArgs s_undo_take) (defBody s_undo_take) (defScope s_undo_take) [] [("arms", V.int 2)] A.f_undo_take A.d_undo_take
  m_undo_take : mg "undo_take" = some (.ref A.f_undo_take)
  F_places_behind : FunD K "places_behind" "places_behind" (defArgs s_places_behind) (defBody s_places_behind) (defScope s_places_behind) [] [("arms", V.int 2)] A.f_places_behind A.d_places_behind
  m_places_behind : mg "places_behind" = some (.ref A.f_places_behind)
  F_heap_with_room : Fun K "heap_with_room" "heap_with_room" s_heap_with_room A.f_heap_with_room A.d_heap_with_room
  m_heap_with_room : mg "heap_with_room" = some (.ref A.f_heap_with_room)
  F_heap_after : Fun K "heap_after" "heap_after" s_heap_after A.f_heap_after A.d_heap_after
  m_heap_after : mg "heap_after" = some (.ref A.f_heap_after)
  F_place_over_next : Fun K "place_over_next" "place_over_next" s_place_over_next A.f_place_over_next A.d_place_over_next
  m_place_over_next : mg "place_over_next" = some (.ref A.f_place_over_next)
  F__law_number : Fun K "_law_number" "_law_number" s__law_number A.f__law_number A.d__law_number
  m__law_number : mg "_law_number" = some (.ref A.f__law_number)
  F__law_take : Fun K "_law_take" "_law_take" s__law_take A.f__law_take A.d__law_take
  m__law_take : mg "_law_take" = some (.ref A.f__law_take)
  F__law_pick : Fun K "_law_pick" "_law_pick" s__law_pick A.f__law_pick A.d__law_pick
  m__law_pick : mg "_law_pick" = some (.ref A.f__law_pick)
  F__law_parent : Fun K "_law_parent" "_law_parent" s__law_parent A.f__law_parent A.d__law_parent
  m__law_parent : mg "_law_parent" = some (.ref A.f__law_parent)
  F__law_children : Fun K "_law_children" "_law_children" s__law_children A.f__law_children A.d__law_children
  m__law_children : mg "_law_children" = some (.ref A.f__law_children)
  F__law_way : Fun K "_law_way" "_law_way" s__law_way A.f__law_way A.d__law_way
  m__law_way : mg "_law_way" = some (.ref A.f__law_way)
  F__law_arms : Fun K "_law_arms" "_law_arms" s__law_arms A.f__law_arms A.d__law_arms
  m__law_arms : mg "_law_arms" = some (.ref A.f__law_arms)
  F__law_order : Fun K "_law_order" "_law_order" s__law_order A.f__law_order A.d__law_order
  m__law_order : mg "_law_order" = some (.ref A.f__law_order)
  F__law_is_heap : Fun K "_law_is_heap" "_law_is_heap" s__law_is_heap A.f__law_is_heap A.d__law_is_heap
  m__law_is_heap : mg "_law_is_heap" = some (.ref A.f__law_is_heap)
  F__law_lists : Fun K "_law_lists" "_law_lists" s__law_lists A.f__law_lists A.d__law_lists
  m__law_lists : mg "_law_lists" = some (.ref A.f__law_lists)
  F__law_heaps : Fun K "_law_heaps" "_law_heaps" s__law_heaps A.f__law_heaps A.d__law_heaps
  m__law_heaps : mg "_law_heaps" = some (.ref A.f__law_heaps)
  F__law_down : Fun K "_law_down" "_law_down" s__law_down A.f__law_down A.d__law_down
  m__law_down : mg "_law_down" = some (.ref A.f__law_down)
  F__law_out : Fun K "_law_out" "_law_out" s__law_out A.f__law_out A.d__law_out
  m__law_out : mg "_law_out" = some (.ref A.f__law_out)
  F__law_unlike : Fun K "_law_unlike" "_law_unlike" s__law_unlike A.f__law_unlike A.d__law_unlike
  m__law_unlike : mg "_law_unlike" = some (.ref A.f__law_unlike)
  F_law : Fun K "law" "law" s_law A.f_law A.d_law
  m_law : mg "law" = some (.ref A.f_law)
  c_GREATEST_KEY : mg "GREATEST_KEY" = some (.int 1000000000 0) ∨ ∃ t, mg "GREATEST_KEY" = some (.int 1000000000 t)
  c_MOST_ARMS : mg "MOST_ARMS" = some (.int 4 0) ∨ ∃ t, mg "MOST_ARMS" = some (.int 4 t)
  c_MOST_PLACES : mg "MOST_PLACES" = some (.int 12 0) ∨ ∃ t, mg "MOST_PLACES" = some (.int 12 t)
  g_any : mg "any" = none
  g_bool : mg "bool" = none
  g_enumerate : mg "enumerate" = none
  g_int : mg "int" = none
  g_isinstance : mg "isinstance" = none
  g_iter : mg "iter" = none
  g_len : mg "len" = none
  g_list : mg "list" = none
  g_min : mg "min" = none
  g_range : mg "range" = none
  g_sorted : mg "sorted" = none
  g_sum : mg "sum" = none
  g_tuple : mg "tuple" = none
  g_zip : mg "zip" = none
  b_factorial : mg "factorial" = some (.builtin "math.factorial")
  cT : Cls K A.C
  nMany : NoAttr K A.C "many"
  nArms : NoAttr K A.C "arms"
  nPl : NoAttr K A.C "_places"
  mC : mg "Tree" = some (.ref A.C)
  mkC : Mk K A.C A.f_t___init__
  cr : ClX.CRead K A.C (.type "type")
  cof : ClX.CMet K A.C (.type "type") "of" A.po A.f_t_of
  cTS : Cls K A.CS
  nRow : NoAttr K A.CS "row"
  nWay : NoAttr K A.CS "way"
  nLooks : NoAttr K A.CS "looks"
  mCS : mg "Sift" = some (.ref A.CS)
  mkCS : Mk K A.CS A.f_z___init__
  cTQ : Cls K A.CQ
  qRow : NoAttr K A.CQ "row"
  mCQ : mg "Before" = some (.ref A.CQ)
  mkCQ : Mk K A.CQ A.f_q___init__
  kaQ : PySem.W.findIn K (.ref A.CQ) "__class__" = some (some (.builtin "object.__class__"))
  knQ : PySem.W.specialIn K (.builtin "object.__class__") "__get__" = some (some (.builtin "getset_descriptor.__get__"))
  ktkQ : PySem.W.takesIn K (.builtin "object.__class__") = some true
  kmQ : PySem.W.mroIn K A.CQ (.type "object") = some true
  kiQ_CV : PySem.W.kitOne K (.ref A.CV) (.ref A.CQ) = some false
  cTV : Cls K A.CV
  vPlace : NoAttr K A.CV "place"
  vKey : NoAttr K A.CV "key"
  mCV : mg "Over" = some (.ref A.CV)
  mkCV : Mk K A.CV A.f_v___init__
  kaV : PySem.W.findIn K (.ref A.CV) "__class__" = some (some (.builtin "object.__class__"))
  knV : PySem.W.specialIn K (.builtin "object.__class__") "__get__" = some (some (.builtin "getset_descriptor.__get__"))
  ktkV : PySem.W.takesIn K (.builtin "object.__class__") = some true
  kmV : PySem.W.mroIn K A.CV (.type "object") = some true
  kiV_CQ : PySem.W.kitOne K (.ref A.CQ) (.ref A.CV) = some false
def TT (A : Ad) : List (Addr × Str) := [(A.P_least_child, ("least_child" : Str) ++ ".<locals>." ++ "<lambda>")]

end Tw

set_option Elab.async false
set_option linter.all false
set_option maxRecDepth 100000
set_option maxHeartbeats 2000000
namespace Tw
open PySem PySem.Spec PyProof.Rows L2
section
variable {P : Program} {w : World} {K : PySem.W.Frag} {mg : Str → Option Value} {base : Heap} {A : Ad}
open LamX (ExtN Tabs TabS)
/-- the children as the law looks for them -/
def kidL (n w i : Nat) : List Nat := ((List.range (n - 1)).filter fun j => decide (j / w = i)).map (· + 1)
/-- a way down from a place -/
def Down (n w : Nat) : Nat → List Nat → Prop
  | _, [] => True
  | p, b :: l => b ∈ kidL n w p ∧ Down n w b l
def upF : Nat → Nat → Nat → List Nat
  | 0, _, p => [p]
  | k + 1, w, p => if p = 0 then [0] else p :: upF k w ((p - 1) / w)
def upL (w p : Nat) : List Nat := upF 13 w p
def wayL (w p : Nat) : List Nat := (upL w p).reverse
def keyAt (ks : List Int) (p : Nat) : Int := ks.getD p 0
def swp (ks : List Int) (a b : Nat) : List Int := (ks.set a (keyAt ks b)).set b (keyAt ks a)
/-- the row behind the swaps of a way, undone -/
def undoS : List Int → List Nat → List Int
  | R, [] => R
  | R, [_] => R
  | R, a :: b :: l => swp (undoS R (b :: l)) a b
def ahdL (w : Nat) (ks : List Int) (least : Int) (place : Nat) : List Int := least :: ((undoS ks (wayL w place)).drop 1 ++ (undoS ks (wayL w place)).take 1)
def endOf (p : Nat) (l : List Nat) : Nat := l.getLastD p
/-- the faults of a row -/
def faultB (ns : List Int) (w p : Nat) : Bool := decide (0 < p) && decide (ns.getD p 0 < ns.getD ((p - 1) / w) 0)
def faultL (ns : List Int) (w : Nat) : List Nat := (List.range ns.length).filter (faultB ns w)
theorem end_cons (p b : Nat) (l : List Nat) : endOf p (b :: l) = endOf b l := by
  unfold endOf
  cases l with
  | nil => rfl
  | cons c l => simp [List.getLastD]
theorem kid_in {n w i j : Nat} (hw : 1 ≤ w) (h : j ∈ kidL n w i) : i < j ∧ j < n := by
  unfold kidL at h
  obtain ⟨k, hk, rfl⟩ := List.mem_map.mp h
  obtain ⟨h1, h2⟩ := List.mem_filter.mp hk
  have h1 := List.mem_range.mp h1
  have h2 := of_decide_eq_true h2
  have : k / w ≤ k := Nat.div_le_self _ _
  omega
theorem down_lt {n w : Nat} (hw : 1 ≤ w) : ∀ (l : List Nat) (p : Nat), p < n → Down n w p l → (∀ q ∈ l, p < q ∧ q < n) ∧ p ≤ endOf p l ∧ endOf p l < n
  | [], p, hp, _ => ⟨fun q hq => (nomatch hq), Nat.le_refl _, hp⟩
  | b :: l, p, hp, ⟨hb, hd⟩ => by
    obtain ⟨b1, b2⟩ := kid_in hw hb
    obtain ⟨h1, h2, h3⟩ := down_lt hw l b b2 hd
    refine ⟨fun q hq => ?_, by rw [end_cons]; omega, by rw [end_cons]; exact h3⟩
    rcases List.mem_cons.mp hq with rfl | hq
    · exact ⟨b1, b2⟩
    · have := h1 q hq
      exact ⟨by omega, this.2⟩
theorem swp_len (ks : List Int) (a b : Nat) : (swp ks a b).length = ks.length := by unfold swp; rw [List.length_set, List.length_set]
theorem undo_len (R : List Int) : ∀ l, (undoS R l).length = R.length
  | [] => rfl
  | [_] => rfl
  | a :: b :: l => by
    show (swp (undoS R (b :: l)) a b).length = _
    rw [swp_len, undo_len R (b :: l)]
theorem mem_kid {n w p c : Nat} : c ∈ kidL n w p ↔ 1 ≤ c ∧ c < n ∧ (c - 1) / w = p := by
  unfold kidL
  rw [List.mem_map]
  constructor
  · rintro ⟨k, hk, rfl⟩
    obtain ⟨h1, h2⟩ := List.mem_filter.mp hk
    have h1 := List.mem_range.mp h1
    have h2 := of_decide_eq_true h2
    exact ⟨by omega, by omega, by rw [Nat.add_sub_cancel]; exact h2⟩
  · rintro ⟨h1, h2, h3⟩
    refine ⟨c - 1, List.mem_filter.mpr ⟨List.mem_range.mpr (by omega), decide_eq_true h3⟩, by omega⟩
theorem keyAt_set {ks : List Int} {a p : Nat} {v : Int} (ha : a < ks.length) : keyAt (ks.set a v) p = if p = a then v else keyAt ks p := by
  unfold keyAt
  rw [List.getD_eq_getElem?_getD, List.getD_eq_getElem?_getD, List.getElem?_set]
  by_cases h : a = p
  · rw [if_pos h, if_pos (by omega), if_pos h.symm]
    rfl
  · rw [if_neg h, if_neg (fun z => h z.symm)]
theorem keyAt_swp {ks : List Int} {a b p : Nat} (ha : a < ks.length) (hb : b < ks.length) : keyAt (swp ks a b) p = if p = b then keyAt ks a else if p = a then keyAt ks b else keyAt ks p := by
  unfold swp
  rw [keyAt_set (by rw [List.length_set]; exact hb), keyAt_set ha]
/-- what stands where -/
theorem undo_at {n w : Nat} (hw : 1 ≤ w) {R : List Int} (hl : R.length = n) : ∀ (l : List Nat) (p : Nat), p < n → Down n w p l → ∀ q,
    keyAt (undoS R (p :: l)) q = if q = p then keyAt R (endOf p l) else if q ∈ l then keyAt R ((q - 1) / w) else keyAt R q
  | [], p, hp, _, q => by
    show keyAt R q = _
    by_cases h : q = p
    · rw [if_pos h, h]
      rfl
    · rw [if_neg h, if_neg (by simp)]
  | b :: l, p, hp, ⟨hb, hd⟩, q => by
    obtain ⟨b1, b2⟩ := kid_in hw hb
    obtain ⟨h1, _, _⟩ := down_lt hw l b b2 hd
    have ih := undo_at hw hl l b b2 hd
    show keyAt (swp (undoS R (b :: l)) p b) q = _
    rw [keyAt_swp (by rw [undo_len]; omega) (by rw [undo_len]; omega), ih, ih, ih]
    by_cases e1 : q = b
    · subst e1
      have hpl : p ∉ l := fun z => by have := h1 p z; omega
      rw [if_pos rfl, if_neg (by omega), if_neg hpl, if_neg (by omega), if_pos List.mem_cons_self, (mem_kid.mp hb).2.2]
    · rw [if_neg e1]
      by_cases e2 : q = p
      · rw [if_pos e2, if_pos rfl, if_pos e2, end_cons]
      · rw [if_neg e2, if_neg e1, if_neg e2]
        by_cases e3 : q ∈ l
        · rw [if_pos e3, if_pos (List.mem_cons_of_mem _ e3)]
        · rw [if_neg e3, if_neg (fun z => e3 ((List.mem_cons.mp z).resolve_left e1))]
def lastW (l : List Nat) : Nat := l.getLastD 0
theorem last_end (p : Nat) (l : List Nat) : lastW ([p] ++ l) = endOf p l := by
  unfold lastW endOf
  cases l with
  | nil => rfl
  | cons c l => simp [List.getLastD]
abbrev overP (n w : Nat) : Nat := (n - 1) / w
/-- no key of a child is less -/
def goodAt (n w : Nat) (ks : List Int) (p : Nat) : Prop := ∀ c ∈ kidL n w p, keyAt ks p ≤ keyAt ks c
def GoodFrom (n w : Nat) (ks : List Int) (i : Nat) : Prop := ∀ p, i ≤ p → p < n → goodAt n w ks p
theorem down_mem {n w : Nat} : ∀ (l : List Nat) (b : Nat), Down n w b l → ∀ c ∈ l, (c - 1) / w = b ∨ (c - 1) / w ∈ l
  | [], _, _, _, hc => (nomatch hc)
  | d :: l, b, hd, c, hc => by
    rcases List.mem_cons.mp hc with rfl | hc
    · exact .inl (mem_kid.mp hd.1).2.2
    · rcases down_mem l d hd.2 c hc with z | z
      · exact .inr (by rw [z]; exact List.mem_cons_self)
      · exact .inr (List.mem_cons_of_mem _ z)
def leastC (ks : List Int) (l : List Nat) : Nat := l.getD (PySem.argBest (fun i j => decide (keyAt ks (l.getD i 0) < keyAt ks (l.getD j 0))) (l.length - 1)) 0
def goDown (n w : Nat) : Nat → List Int → Nat → List Nat → Nat → List Int × List Nat × Nat
  | 0, ks, _, way, lk => (ks, way, lk)
  | f + 1, ks, p, way, lk => if kidL n w p = [] then (ks, way, lk) else
      if keyAt ks (leastC ks (kidL n w p)) < keyAt ks p then goDown n w f (swp ks p (leastC ks (kidL n w p))) (leastC ks (kidL n w p)) (way ++ [leastC ks (kidL n w p)]) (lk + (kidL n w p).length)
      else (ks, way, lk + (kidL n w p).length)
def HeapL (n w : Nat) (ks : List Int) : Prop := ∀ c, 1 ≤ c → c < n → keyAt ks ((c - 1) / w) ≤ keyAt ks c
theorem heap_fault {n w : Nat} {ks : List Int} (hl : ks.length = n) (h : HeapL n w ks) : faultL ks w = [] := by
  refine List.eq_nil_iff_forall_not_mem.mpr fun p hp => ?_
  unfold faultL at hp
  obtain ⟨h1, h2⟩ := List.mem_filter.mp hp
  unfold faultB at h2
  obtain ⟨h3, h4⟩ := Bool.and_eq_true_iff.mp h2
  have h1 := List.mem_range.mp h1
  have h3 := of_decide_eq_true h3
  have h4 := of_decide_eq_true h4
  have := h p (by omega) (by omega)
  unfold keyAt at this
  omega
theorem heap_good {n w : Nat} {ms : List Int} (h : HeapL n w ms) : GoodFrom n w ms 0 := fun p _ hp c hc => by
  obtain ⟨c1, c2, c3⟩ := mem_kid.mp hc
  have := h c c1 c2
  rw [c3] at this
  exact this
theorem keyAt_mem {ks : List Int} {p : Nat} (h : p < ks.length) : keyAt ks p ∈ ks := by
  unfold keyAt
  rw [List.getD_eq_getElem?_getD, List.getElem?_eq_getElem h]
  exact List.getElem_mem h
theorem up_eq : ∀ w, w < 5 → ∀ p, p < 13 → 1 ≤ w → upL w p = if p = 0 then [0] else p :: upL w ((p - 1) / w) := by decide +kernel
theorem way_rec (w p : Nat) (hw : 1 ≤ w ∧ w ≤ 4) (hp : p ≤ 12) (h0 : 0 < p) : wayL w p = wayL w ((p - 1) / w) ++ [p] := by
  unfold wayL
  have e := up_eq w (by omega) p (by omega) hw.1
  rw [if_neg (by omega)] at e
  rw [e, List.reverse_cons]
theorem way_zero : ∀ w, w < 5 → 1 ≤ w → wayL w 0 = [0] := by decide +kernel
theorem no_fault {ns : List Int} {w : Nat} (hw : 1 ≤ w ∧ w ≤ 4) (hn : ns.length ≤ 12) (h : faultL ns w = []) : ∀ p, p < ns.length → ∀ q ∈ wayL w p, ns.getD q 0 ≤ ns.getD p 0 := by
  have h1 : ∀ p, p < ns.length → 0 < p → ns.getD ((p - 1) / w) 0 ≤ ns.getD p 0 := fun p hp h0 => by
    refine Int.not_lt.mp fun z => ?_
    have m : p ∈ faultL ns w := by
      unfold faultL
      refine List.mem_filter.mpr ⟨List.mem_range.mpr hp, ?_⟩
      unfold faultB
      rw [decide_eq_true h0, decide_eq_true z]
      rfl
    rw [h] at m
    cases m
  intro p
  induction p using Nat.strongRecOn with
  | _ p ih =>
    intro hp q hq
    by_cases h0 : 0 < p
    · have hlt : (p - 1) / w < p := Nat.lt_of_le_of_lt (Nat.div_le_self _ _) (by omega)
      rw [way_rec w p hw (by omega) h0] at hq
      rcases List.mem_append.mp hq with hq | hq
      · exact Int.le_trans (ih _ hlt (by omega) q hq) (h1 p hp h0)
      · rw [List.mem_singleton.mp hq]
        exact Int.le_refl _
    · obtain rfl : p = 0 := by omega
      rw [way_zero w (by omega) hw.1] at hq
      rw [List.mem_singleton.mp hq]
      exact Int.le_refl _
/-- the last key ahead of the ones between -/
def outRow (ks : List Int) : List Int := (ks.getD (ks.length - 1) 0) :: (ks.drop 1).take (ks.length - 2)
def takeR (ks : List Int) (w : Nat) : List Int × List Nat × Nat := if ks.length = 1 then ([], [], 0) else goDown (ks.length - 1) w 20 (outRow ks) 0 [0] 0
theorem least_of {ks : List Int} {l : List Nat} {j : Nat} (h : Cl.FirstLeast (fun i => keyAt ks (l.getD i 0)) l.length j) : l.getD j 0 = leastC ks l := by
  have h0 := h.1
  obtain ⟨n, en⟩ : ∃ n, l.length = n + 1 := ⟨l.length - 1, by omega⟩
  have b := Cl.best_is (fun i => keyAt ks (l.getD i 0)) n
  rw [← en] at b
  unfold leastC
  rw [Cl.first_one h b, show l.length - 1 = n by omega]
theorem least_mem {ks : List Int} {l : List Nat} (h : l ≠ []) : leastC ks l ∈ l := by
  obtain ⟨n, en⟩ : ∃ n, l.length = n + 1 := ⟨l.length - 1, by have := List.length_pos_iff.mpr h; omega⟩
  have b := Cl.best_is (fun i => keyAt ks (l.getD i 0)) n
  rw [← en] at b
  rw [← least_of b, List.getD_eq_getElem?_getD, List.getElem?_eq_getElem b.1]
  exact List.getElem_mem b.1
theorem goDown_leaf {n w f : Nat} {ks : List Int} {p : Nat} {way : List Nat} {lk : Nat} (h : kidL n w p = []) : goDown n w f ks p way lk = (ks, way, lk) := by
  cases f with
  | zero => rfl
  | succ f => rw [goDown, if_pos h]
theorem goDown_stay {n w f : Nat} {ks : List Int} {p : Nat} {way : List Nat} {lk : Nat} (h0 : kidL n w p ≠ []) (h : ¬ keyAt ks (leastC ks (kidL n w p)) < keyAt ks p) : goDown n w (f + 1) ks p way lk = (ks, way, lk + (kidL n w p).length) := by
  rw [goDown, if_neg h0, if_neg h]
theorem goDown_go {n w f : Nat} {ks : List Int} {p b : Nat} {way : List Nat} {lk : Nat} (h0 : kidL n w p ≠ []) (eb : leastC ks (kidL n w p) = b) (h : keyAt ks b < keyAt ks p) :
    goDown n w (f + 1) ks p way lk = goDown n w f (swp ks p b) b (way ++ [b]) (lk + (kidL n w p).length) := by
  rw [goDown, if_neg h0, eb, if_pos h]
theorem q1 : ¬ (("row" : Str) = "stops") := by decide +kernel
theorem q2 : ¬ (("row" : Str) = "changes") := by decide +kernel
theorem swp_swp {ks : List Int} {a b : Nat} (ha : a < ks.length) (hb : b < ks.length) : swp (swp ks a b) a b = ks := by
  have la : a < (swp ks a b).length := by rw [swp_len]; exact ha
  have lb : b < (swp ks a b).length := by rw [swp_len]; exact hb
  refine List.ext_getElem (by rw [swp_len, swp_len]) fun i h1 h2 => ?_
  have k : ∀ (l : List Int) (h : i < l.length), l[i] = keyAt l i := fun l h => by
    unfold keyAt
    rw [List.getD_eq_getElem?_getD, List.getElem?_eq_getElem h]
    rfl
  rw [k _ h1, k _ h2, keyAt_swp la lb, keyAt_swp ha hb, keyAt_swp ha hb, keyAt_swp ha hb]
  by_cases e1 : i = b
  · subst e1
    by_cases e2 : a = i
    · subst e2
      rw [if_pos rfl, if_pos rfl]
    · rw [if_pos rfl, if_neg e2, if_pos rfl]
  · rw [if_neg e1]
    by_cases e2 : i = a
    · rw [if_pos e2, if_pos rfl, e2]
    · rw [if_neg e2, if_neg e2, if_neg e1]
theorem least_le {ks : List Int} {l : List Nat} {c : Nat} (h : c ∈ l) : keyAt ks (leastC ks l) ≤ keyAt ks c := by
  have hne : l ≠ [] := List.ne_nil_of_mem h
  obtain ⟨n, en⟩ : ∃ n, l.length = n + 1 := ⟨l.length - 1, by have := List.length_pos_iff.mpr hne; omega⟩
  have b := Cl.best_is (fun i => keyAt ks (l.getD i 0)) n
  rw [← en] at b
  obtain ⟨i, hi, e⟩ := List.mem_iff_getElem.mp h
  have this : keyAt ks (l.getD (PySem.argBest (fun i j => decide (keyAt ks (l.getD i 0) < keyAt ks (l.getD j 0))) n) 0) ≤ keyAt ks (l.getD i 0) := b.2.1 i hi
  rw [least_of b] at this
  have e2 : l.getD i 0 = c := by rw [List.getD_eq_getElem?_getD, List.getElem?_eq_getElem hi, ← e]; rfl
  rw [e2] at this
  exact this
theorem least_one {ks : List Int} {l : List Nat} {b : Nat} (hb : b ∈ l) (h : ∀ c ∈ l, c ≠ b → keyAt ks b < keyAt ks c) : leastC ks l = b := by
  have hm := least_mem (ks := ks) (List.ne_nil_of_mem hb)
  have hle := least_le (ks := ks) hb
  by_cases e : leastC ks l = b
  · exact e
  · have := h _ hm e
    omega
theorem key_ne {R : List Int} (hd : R.Nodup) {a b : Nat} (ha : a < R.length) (hb : b < R.length) (h : a ≠ b) : keyAt R a ≠ keyAt R b := fun z => by
  unfold keyAt at z
  rw [List.getD_eq_getElem?_getD, List.getD_eq_getElem?_getD, List.getElem?_eq_getElem ha, List.getElem?_eq_getElem hb] at z
  have z : R[a] = R[b] := z
  have hp := List.pairwise_iff_getElem.mp (List.nodup_iff_pairwise_ne.mp hd)
  rcases Nat.lt_or_gt_of_ne h with q | q
  · exact hp a b ha hb q z
  · exact hp b a hb ha q z.symm
theorem key_end {n w : Nat} (hw : 1 ≤ w) {R : List Int} : ∀ (l : List Nat) (p : Nat), p < n → GoodFrom n w R p → Down n w p l → keyAt R p ≤ keyAt R (endOf p l)
  | [], p, _, _, _ => Int.le_refl _
  | b :: l, p, hp, g, ⟨hb, hd⟩ => by
    obtain ⟨b1, b2⟩ := kid_in hw hb
    rw [end_cons]
    exact Int.le_trans (g p (Nat.le_refl _) hp b hb) (key_end hw l b b2 (fun q h1 h2 => g q (by omega) h2) hd)
/-- a way undone is gone down again -/
theorem undo_down {n w : Nat} (hw : 1 ≤ w) {R : List Int} (hl : R.length = n) (hd : R.Nodup) : ∀ (l : List Nat) (f p : Nat) (way : List Nat) (lk : Nat), p < n → n - p ≤ f → GoodFrom n w R p → Down n w p l →
    (goDown n w f (undoS R (p :: l)) p way lk).1 = R ∧ (goDown n w f (undoS R (p :: l)) p way lk).2.1 = way ++ l
  | l, 0, p, way, lk, hp, hf, _, _ => absurd hf (by omega)
  | [], f + 1, p, way, lk, hp, hf, g, _ => by
    show (goDown n w (f + 1) R p way lk).1 = R ∧ (goDown n w (f + 1) R p way lk).2.1 = way ++ []
    by_cases h0 : kidL n w p = []
    · rw [goDown_leaf h0]
      exact ⟨rfl, (List.append_nil _).symm⟩
    · have := g p (Nat.le_refl _) hp _ (least_mem (ks := R) h0)
      rw [goDown_stay h0 (by omega)]
      exact ⟨rfl, (List.append_nil _).symm⟩
  | b :: l, f + 1, p, way, lk, hp, hf, g, ⟨hb, hdn⟩ => by
    obtain ⟨b1, b2⟩ := kid_in hw hb
    have hdw : Down n w p (b :: l) := ⟨hb, hdn⟩
    have at_ := undo_at hw hl (b :: l) p hp hdw
    obtain ⟨h1, h2, h3⟩ := down_lt hw l b b2 hdn
    have h0 : kidL n w p ≠ [] := List.ne_nil_of_mem hb
    have kb : keyAt (undoS R (p :: b :: l)) b = keyAt R p := by
      rw [at_, if_neg (by omega), if_pos List.mem_cons_self, (mem_kid.mp hb).2.2]
    have kp : keyAt (undoS R (p :: b :: l)) p = keyAt R (endOf b l) := by
      rw [at_, if_pos rfl, end_cons]
    have el : leastC (undoS R (p :: b :: l)) (kidL n w p) = b := least_one hb fun c hc hcb => by
      obtain ⟨c1, c2⟩ := kid_in hw hc
      have hcl : c ∉ b :: l := fun z => by
        rcases List.mem_cons.mp z with z | z
        · exact hcb z
        · have e : ∀ (l : List Nat) (b : Nat), Down n w b l → ∀ c ∈ l, (c - 1) / w = b ∨ (c - 1) / w ∈ l := by
            intro l
            induction l with
            | nil => intro b _ c hc; cases hc
            | cons d l ih =>
              intro b hd c hc
              rcases List.mem_cons.mp hc with rfl | hc
              · exact .inl (mem_kid.mp hd.1).2.2
              · rcases ih d hd.2 c hc with z | z
                · exact .inr (by rw [z]; exact List.mem_cons_self)
                · exact .inr (List.mem_cons_of_mem _ z)
          have pc := (mem_kid.mp hc).2.2
          rcases e l b hdn c z with z2 | z2
          · omega
          · have := h1 _ z2
            omega
      rw [kb, at_, if_neg (by omega), if_neg hcl]
      have := g p (Nat.le_refl _) hp c hc
      have := key_ne hd (a := p) (b := c) (by omega) (by omega) (by omega)
      omega
    have lt : keyAt (undoS R (p :: b :: l)) b < keyAt (undoS R (p :: b :: l)) p := by
      rw [kb, kp]
      have q1 := g p (Nat.le_refl _) hp b hb
      have q2 := key_end hw l b b2 (fun q a c => g q (by omega) c) hdn
      have := key_ne hd (a := p) (b := endOf b l) (by omega) (by omega) (by omega)
      omega
    rw [goDown_go h0 el lt]
    have es : swp (undoS R (p :: b :: l)) p b = undoS R (b :: l) := by
      show swp (swp (undoS R (b :: l)) p b) p b = _
      exact swp_swp (by rw [undo_len]; omega) (by rw [undo_len]; omega)
    rw [es]
    obtain ⟨r1, r2⟩ := undo_down hw hl hd l f b (way ++ [b]) (lk + (kidL n w p).length) b2 (by omega) (fun q a c => g q (by omega) c) hdn
    exact ⟨r1, by rw [r2, List.append_assoc]; rfl⟩
theorem self_sub : ∀ w, w < 5 → ∀ i, i < 13 → 1 ≤ w → i ∈ wayL w i := by decide +kernel
theorem fault_heap {n w : Nat} {ks : List Int} (hw : 1 ≤ w ∧ w ≤ 4) (hn : n ≤ 12) (hl : ks.length = n) (h : faultL ks w = []) : HeapL n w ks := fun c h1 h2 => by
  refine no_fault hw (by omega) h c (by omega) _ ?_
  rw [way_rec w c hw (by omega) h1]
  exact List.mem_append_left _ (self_sub w (by omega) _ (by have := Nat.div_le_self (c - 1) w; omega) hw.1)
def befP (w : Nat) (ks bs : List Int) (least : Int) (place : Nat) : Prop := bs.length = ks.length + 1 ∧ faultL bs w = [] ∧ bs.getD 0 0 = least ∧ (takeR bs w).1 = ks ∧ lastW (takeR bs w).2.1 = place
theorem ahd_len {w place : Nat} {ks : List Int} {least : Int} (h : 1 ≤ ks.length) : (ahdL w ks least place).length = ks.length + 1 := by
  unfold ahdL
  rw [List.length_cons, List.length_append, List.length_drop, List.length_take, undo_len]
  omega
section
variable {n w place : Nat} {ks : List Int} {least : Int} {l : List Nat}
theorem ahd_at (hw : 1 ≤ w) (hl : ks.length = n) (hp : place < n) (hd : Down n w 0 l) (hw2 : wayL w place = 0 :: l) (he : endOf 0 l = place) (c : Nat) (hc : c < n + 1) :
    keyAt (ahdL w ks least place) c = if c = 0 then least else if c = n then keyAt ks place else if c ∈ l then keyAt ks ((c - 1) / w) else keyAt ks c := by
  have at_ := undo_at hw hl l 0 (by omega) hd
  rw [← hw2] at at_
  have hul : (undoS ks (wayL w place)).length = n := by rw [undo_len, hl]
  unfold ahdL
  generalize undoS ks (wayL w place) = us at at_ hul
  by_cases h0 : c = 0
  · subst h0
    rw [if_pos rfl]
    rfl
  · rw [if_neg h0]
    obtain ⟨m, rfl⟩ : ∃ m, c = m + 1 := ⟨c - 1, by omega⟩
    show (least :: (us.drop 1 ++ us.take 1)).getD (m + 1) 0 = _
    rw [List.getD_cons_succ, List.getD_eq_getElem?_getD]
    by_cases h1 : m + 1 = n
    · rw [if_pos h1, List.getElem?_append_right (by rw [List.length_drop]; omega), List.length_drop, hul, show m - (n - 1) = 0 by omega, List.getElem?_take, if_pos (by omega)]
      have := at_ 0
      rw [if_pos rfl, he] at this
      unfold keyAt at this
      rw [List.getD_eq_getElem?_getD] at this
      exact this
    · rw [if_neg h1, List.getElem?_append_left (by rw [List.length_drop]; omega), List.getElem?_drop, Nat.add_comm 1 m]
      have := at_ (m + 1)
      rw [if_neg (by omega)] at this
      unfold keyAt at this ⊢
      rw [List.getD_eq_getElem?_getD] at this
      exact this
/-- a heap just if the key over the last place is not the greater one -/
theorem ahd_heap (hw : 1 ≤ w ∧ w ≤ 4) (hn : n ≤ 11) (hl : ks.length = n) (hf : faultL ks w = []) (hlt : ∀ z ∈ ks, least < z) (hp : place < n) (hd : Down n w 0 l) (hw2 : wayL w place = 0 :: l) (he : endOf 0 l = place) :
    (faultL (ahdL w ks least place) w = [] ↔ ¬ keyAt ks (overP n w) > keyAt ks place) ∧ (keyAt ks (overP n w) > keyAt ks place ↔ keyAt (ahdL w ks least place) (overP n w) > keyAt ks place) ∧
    (keyAt ks (overP n w) > keyAt ks place → keyAt (ahdL w ks least place) (overP n w) = keyAt ks (overP n w)) := by
  have at_ := ahd_at (least := least) hw.1 hl hp hd hw2 he
  have hh := fault_heap hw (by omega) hl hf
  have hle : ∀ q, q = 0 ∨ q ∈ l → keyAt ks q ≤ keyAt ks place := fun q hq => no_fault hw (by omega) hf place (by omega) q (by rw [hw2]; exact List.mem_cons.mpr hq)
  have hll : ∀ q, q < n → least < keyAt ks q := fun q hq => hlt _ (keyAt_mem (by omega))
  have hal : (ahdL w ks least place).length = n + 1 := by rw [ahd_len (by omega), hl]
  have hov : overP n w < n := by
    show (n - 1) / w < n
    have := Nat.div_le_self (n - 1) w
    omega
  have hdm := fun c hc => down_mem l 0 hd c hc
  have hlt2 : ∀ c ∈ l, 0 < c ∧ c < n := fun c hc => (down_lt hw.1 l 0 (by omega) hd).1 c hc
  have hpar : ∀ c, 1 ≤ c → c < n + 1 → (c - 1) / w < n ∧ (c - 1) / w < c := fun c h1 h2 => by
    have := Nat.div_le_self (c - 1) w
    omega
  have eover : keyAt (ahdL w ks least place) (overP n w) = if overP n w = 0 then least else if overP n w ∈ l then keyAt ks ((overP n w - 1) / w) else keyAt ks (overP n w) := by
    rw [at_ _ (by omega)]
    by_cases h0 : overP n w = 0
    · rw [if_pos h0, if_pos h0]
    · rw [if_neg h0, if_neg h0, if_neg (by omega)]
  have hup : ∀ q, q ∈ l → keyAt ks ((q - 1) / w) ≤ keyAt ks q := fun q hq => by
    obtain ⟨h1, h2⟩ := hlt2 q hq
    exact hh q h1 h2
  have three : (keyAt ks (overP n w) > keyAt ks place → overP n w ≠ 0 ∧ overP n w ∉ l) := fun hg => by
    refine ⟨fun z => ?_, fun z => ?_⟩
    · have := hle _ (.inl z)
      omega
    · have := hle _ (.inr z)
      omega
  have e3 : keyAt ks (overP n w) > keyAt ks place → keyAt (ahdL w ks least place) (overP n w) = keyAt ks (overP n w) := fun hg => by
    obtain ⟨a, b⟩ := three hg
    rw [eover, if_neg a, if_neg b]
  have e2 : keyAt ks (overP n w) > keyAt ks place ↔ keyAt (ahdL w ks least place) (overP n w) > keyAt ks place := by
    refine ⟨fun hg => by rw [e3 hg]; exact hg, fun hg => ?_⟩
    rw [eover] at hg
    by_cases h0 : overP n w = 0
    · rw [if_pos h0] at hg
      have := hll place hp
      omega
    · rw [if_neg h0] at hg
      by_cases h1 : overP n w ∈ l
      · rw [if_pos h1] at hg
        have := hup _ h1
        have := hle _ (.inr h1)
        omega
      · rw [if_neg h1] at hg
        exact hg
  refine ⟨⟨fun hz hg => ?_, fun hng => ?_⟩, e2, e3⟩
  · have h1 := fault_heap hw (by omega) hal hz n (by omega) (by omega)
    rw [at_ n (by omega), if_neg (by omega), if_pos rfl] at h1
    have h2 := e2.mp hg
    have : keyAt (ahdL w ks least place) ((n - 1) / w) = keyAt (ahdL w ks least place) (overP n w) := rfl
    omega
  · refine heap_fault hal fun c h1 h2 => ?_
    obtain ⟨p1, p2⟩ := hpar c h1 h2
    rw [at_ c h2, if_neg (by omega)]
    by_cases hc : c = n
    · subst hc
      rw [if_pos rfl]
      have := fun z => hng (e2.mpr z)
      have e : keyAt (ahdL w ks least place) ((c - 1) / w) = keyAt (ahdL w ks least place) (overP c w) := rfl
      omega
    · rw [if_neg hc, at_ _ (by omega)]
      by_cases h0 : (c - 1) / w = 0
      · rw [if_pos h0]
        by_cases hcl : c ∈ l
        · rw [if_pos hcl]
          have := hll ((c - 1) / w) p1
          omega
        · rw [if_neg hcl]
          have := hll c (by omega)
          omega
      · rw [if_neg h0, if_neg (by omega)]
        by_cases hcl : c ∈ l
        · rw [if_pos hcl]
          have hpl : (c - 1) / w ∈ l := (hdm c hcl).resolve_left h0
          rw [if_pos hpl]
          exact hup _ hpl
        · rw [if_neg hcl]
          have hk := hh c h1 (by omega)
          by_cases hpl : (c - 1) / w ∈ l
          · rw [if_pos hpl]
            have := hup _ hpl
            omega
          · rw [if_neg hpl]
            exact hk
/-- taken out of, it leaves the heap, the last key at the place -/
theorem ahd_bef (hw : 1 ≤ w ∧ w ≤ 4) (hn : n ≤ 11) (hl : ks.length = n) (hf : faultL ks w = []) (hnd : ks.Nodup) (hlt : ∀ z ∈ ks, least < z) (hp : place < n) (hd : Down n w 0 l) (hw2 : wayL w place = 0 :: l) (he : endOf 0 l = place)
    (hng : ¬ keyAt ks (overP n w) > keyAt ks place) : befP w ks (ahdL w ks least place) least place := by
  have hal : (ahdL w ks least place).length = n + 1 := by rw [ahd_len (by omega), hl]
  have hout : outRow (ahdL w ks least place) = undoS ks (0 :: l) := by
    have hul : (undoS ks (0 :: l)).length = n := by rw [undo_len, hl]
    unfold outRow
    rw [hal]
    unfold ahdL
    rw [hw2]
    generalize undoS ks (0 :: l) = us at hul
    cases us with
    | nil => simp at hul; omega
    | cons u us =>
      have hu : us.length = n - 1 := by simp at hul; omega
      simp only [List.drop_succ_cons, List.drop_zero, List.take_succ_cons, List.take_zero]
      rw [show n + 1 - 1 = us.length + 1 by omega, List.getD_cons_succ, List.getD_eq_getElem?_getD, List.getElem?_append_right (Nat.le_refl _), Nat.sub_self, show n + 1 - 2 = us.length by omega, List.take_append_of_le_length (Nat.le_refl _), List.take_length]
      rfl
  have g : GoodFrom n w ks 0 := heap_good (fault_heap hw (by omega) hl hf)
  obtain ⟨r1, r2⟩ := undo_down hw.1 hl hnd l 20 0 [0] 0 (by omega) (by omega) g hd
  have ht : takeR (ahdL w ks least place) w = goDown n w 20 (undoS ks (0 :: l)) 0 [0] 0 := by
    unfold takeR
    rw [hal, if_neg (by omega), hout]
    rfl
  refine ⟨by rw [hal, hl], (ahd_heap hw hn hl hf hlt hp hd hw2 he).1.mpr hng, rfl, by rw [ht]; exact r1, ?_⟩
  rw [ht, r2, last_end]
  exact he
end
end
end Tw

set_option Elab.async false
set_option linter.all false
set_option maxRecDepth 100000
set_option maxHeartbeats 2000000
namespace Tw
open PySem PySem.Spec PyProof.Rows L2
section
variable {P : Program} {w : World} {K : PySem.W.Frag} {mg : Str → Option Value} {base : Heap} {A : Ad}
open LamX (ExtN Tabs TabS)
def insA (x : Int) : List Int → List Int
  | [] => [x]
  | y :: l => if x < y then x :: y :: l else if x = y then y :: l else y :: insA x l
/-- the different keys, ascending -/
def ascL (l : List Int) : List Int := l.foldr insA []
/-- the keys that are left -/
def leftL (ks ps : List Int) : List Int := ps.foldl (fun l u => l.erase u) ks
def okNext (ps : List Int) (par : Option Nat) (x : Int) : Bool := match par with
  | none => true
  | some p => decide (ps.getD p 0 ≤ x)
def nextL (ks ps : List Int) (par : Option Nat) : List Int := (ascL (leftL ks ps)).filter (okNext ps par)
def parO (w i : Nat) : Option Nat := if i = 0 then none else some ((i - 1) / w)
def extL (ks : List Int) (w : Nat) : Nat → List (List Int)
  | 0 => [[]]
  | i + 1 => (extL ks w i).flatMap fun p => (nextL ks p (parO w i)).map fun x => p ++ [x]
def allH (ks : List Int) (w : Nat) : List (List Int) := extL ks w ks.length
def permsL : Nat → List Int → List (List Int)
  | 0, _ => [[]]
  | n + 1, l => (ascL l).flatMap fun x => (permsL n (l.erase x)).map fun s => x :: s
theorem left_snoc (ks ps : List Int) (u : Int) : leftL ks (ps ++ [u]) = (leftL ks ps).erase u := by
  unfold leftL
  rw [List.foldl_append]
  rfl
theorem left_perm : ∀ {ps ks rest : List Int}, ks.Perm (ps ++ rest) → (leftL ks ps).Perm rest
  | [], ks, rest, h => h
  | u :: ps, ks, rest, h => by
    refine left_perm (ps := ps) (ks := ks.erase u) ?_
    have e := h.erase u
    rw [List.cons_append, List.erase_cons_head] at e
    exact e
theorem insA_mem {x y : Int} : ∀ {l : List Int}, y ∈ insA x l ↔ y = x ∨ y ∈ l
  | [] => by simp [insA]
  | z :: l => by
    unfold insA
    by_cases h1 : x < z
    · rw [if_pos h1, List.mem_cons]
    · rw [if_neg h1]
      by_cases h2 : x = z
      · rw [if_pos h2]
        subst h2
        simp
      · rw [if_neg h2, List.mem_cons, insA_mem (l := l), List.mem_cons]
        exact ⟨fun h => by rcases h with h | h | h <;> simp [h], fun h => by rcases h with h | h | h <;> simp [h]⟩
theorem ascL_mem {y : Int} : ∀ {l : List Int}, y ∈ ascL l ↔ y ∈ l
  | [] => Iff.rfl
  | x :: l => by
    show y ∈ insA x (ascL l) ↔ _
    rw [insA_mem, ascL_mem (l := l), List.mem_cons]
theorem next_mem {ks ps : List Int} {par : Option Nat} {x : Int} (h : x ∈ nextL ks ps par) : x ∈ leftL ks ps := ascL_mem.mp (List.mem_filter.mp h).1
theorem ext_ok {ks : List Int} {w : Nat} : ∀ i, i ≤ ks.length → ∀ p ∈ extL ks w i, p.length = i ∧ ∃ rest, ks.Perm (p ++ rest)
  | 0, _, p, hp => by
    rw [List.mem_singleton.mp hp]
    exact ⟨rfl, ks, List.Perm.refl _⟩
  | i + 1, hi, p, hp => by
    obtain ⟨q, hq, hx⟩ := List.mem_flatMap.mp hp
    obtain ⟨x, hx2, rfl⟩ := List.mem_map.mp hx
    obtain ⟨h1, rest, h2⟩ := ext_ok i (by omega) q hq
    have hm : x ∈ rest := (left_perm h2).mem_iff.mp (next_mem hx2)
    refine ⟨by rw [List.length_append, h1]; rfl, rest.erase x, h2.trans ?_⟩
    rw [List.append_assoc]
    exact List.Perm.append_left q (List.perm_cons_erase hm)
theorem flat_congr {α β : Type} {f g : α → List β} : ∀ l : List α, (∀ a ∈ l, f a = g a) → l.flatMap f = l.flatMap g
  | [], _ => rfl
  | a :: l, h => by
    rw [List.flatMap_cons, List.flatMap_cons, h a List.mem_cons_self, flat_congr l fun b hb => h b (List.mem_cons_of_mem _ hb)]
/-- going deep at once -/
def dfsL (w : Nat) : Nat → List Int → List Int → List (List Int)
  | 0, p, _ => [p]
  | m + 1, p, l => ((ascL l).filter (okNext p (parO w p.length))).flatMap fun x => dfsL w m (p ++ [x]) (l.erase x)
theorem flat_one {α : Type} : ∀ l : List α, (l.flatMap fun p => [p]) = l
  | [] => rfl
  | a :: l => by rw [List.flatMap_cons, flat_one l]; rfl
theorem bfs_dfs {ks : List Int} {w : Nat} : ∀ (m i : Nat), i + m = ks.length → allH ks w = (extL ks w i).flatMap fun p => dfsL w m p (leftL ks p)
  | 0, i, h => by
    have e : i = ks.length := by omega
    subst e
    exact (flat_one _).symm
  | m + 1, i, h => by
    rw [bfs_dfs m (i + 1) (by omega)]
    show ((extL ks w i).flatMap fun p => (nextL ks p (parO w i)).map fun x => p ++ [x]).flatMap _ = _
    rw [List.flatMap_assoc]
    refine flat_congr _ fun p hp => ?_
    rw [List.flatMap_map]
    have hpl := (ext_ok i (by omega) p hp).1
    show _ = ((ascL (leftL ks p)).filter (okNext p (parO w p.length))).flatMap _
    rw [hpl]
    refine flat_congr _ fun x _ => ?_
    rw [left_snoc]
def heapB (w : Nat) (r : List Int) : Bool := (List.range r.length).all fun c => decide (c = 0) || decide (r.getD ((c - 1) / w) 0 ≤ r.getD c 0)
theorem heapB_iff {w : Nat} {r : List Int} : heapB w r = true ↔ ∀ c, 1 ≤ c → c < r.length → r.getD ((c - 1) / w) 0 ≤ r.getD c 0 := by
  unfold heapB
  rw [List.all_eq_true]
  refine ⟨fun h c h1 h2 => ?_, fun h c hc => ?_⟩
  · have := h c (List.mem_range.mpr h2)
    rw [Bool.or_eq_true, decide_eq_true_eq, decide_eq_true_eq] at this
    rcases this with e | e
    · omega
    · exact e
  · rw [Bool.or_eq_true, decide_eq_true_eq, decide_eq_true_eq]
    by_cases e : c = 0
    · exact .inl e
    · exact .inr (h c (by omega) (List.mem_range.mp hc))
theorem getD_left {a b : List Int} {c : Nat} (h : c < a.length) : (a ++ b).getD c 0 = a.getD c 0 := by
  rw [List.getD_eq_getElem?_getD, List.getD_eq_getElem?_getD, List.getElem?_append_left h]
theorem getD_mid {a b : List Int} {x : Int} : (a ++ x :: b).getD a.length 0 = x := by
  rw [List.getD_eq_getElem?_getD, List.getElem?_append_right (Nat.le_refl _), Nat.sub_self]
  rfl
theorem ok_iff {w : Nat} {p : List Int} {x : Int} : okNext p (parO w p.length) x = true ↔ (1 ≤ p.length → p.getD ((p.length - 1) / w) 0 ≤ x) := by
  unfold parO okNext
  by_cases h : p.length = 0
  · rw [if_pos h]
    exact ⟨fun _ z => by omega, fun _ => rfl⟩
  · rw [if_neg h]
    show decide _ = true ↔ _
    rw [decide_eq_true_eq]
    exact ⟨fun a _ => a, fun a => a (by omega)⟩
theorem par_in {w c : Nat} (h : 1 ≤ c) : (c - 1) / w < c := Nat.lt_of_le_of_lt (Nat.div_le_self _ _) (by omega)
theorem heap_snoc {w : Nat} {p : List Int} {x : Int} (h : heapB w p = true) (o : okNext p (parO w p.length) x = true) : heapB w (p ++ [x]) = true := by
  rw [heapB_iff] at h ⊢
  rw [ok_iff] at o
  intro c h1 h2
  rw [List.length_append, List.length_singleton] at h2
  have hp := par_in (w := w) h1
  by_cases e : c = p.length
  · subst e
    rw [getD_left hp, getD_mid]
    exact o h1
  · rw [getD_left (by omega), getD_left (by omega)]
    exact h c h1 (by omega)
theorem heap_not {w : Nat} {p s : List Int} {x : Int} (o : ¬ okNext p (parO w p.length) x = true) : heapB w (p ++ x :: s) = false := by
  cases hb : heapB w (p ++ x :: s) with
  | false => rfl
  | true =>
    refine absurd (ok_iff.mpr fun h1 => ?_) o
    have := heapB_iff.mp hb p.length h1 (by rw [List.length_append, List.length_cons]; omega)
    rw [getD_left (par_in h1), getD_mid] at this
    exact this
theorem flat_filter {α β : Type} (b : α → Bool) (f : α → List β) : ∀ l : List α, (l.filter b).flatMap f = l.flatMap fun x => if b x = true then f x else []
  | [] => rfl
  | a :: l => by
    by_cases h : b a = true
    · rw [List.filter_cons_of_pos h, List.flatMap_cons, List.flatMap_cons, if_pos h, flat_filter b f l]
    · rw [List.filter_cons_of_neg h, List.flatMap_cons, if_neg h, flat_filter b f l]
      rfl
theorem dfs_perms {w : Nat} : ∀ (m : Nat) (p l : List Int), heapB w p = true → (((permsL m l).map fun s => p ++ s).filter (heapB w)) = dfsL w m p l
  | 0, p, l, h => by
    show ([p ++ []] : List (List Int)).filter (heapB w) = [p]
    rw [List.append_nil, List.filter_cons_of_pos h]
    rfl
  | m + 1, p, l, h => by
    unfold permsL dfsL
    rw [flat_filter, List.map_flatMap, List.filter_flatMap]
    refine flat_congr _ fun x _ => ?_
    rw [List.map_map]
    by_cases o : okNext p (parO w p.length) x = true
    · rw [if_pos o, ← dfs_perms m (p ++ [x]) (l.erase x) (heap_snoc h o)]
      refine congrArg (List.filter (heapB w)) (List.map_congr_left fun s _ => ?_)
      show p ++ (x :: s) = (p ++ [x]) ++ s
      rw [List.append_assoc]
      rfl
    · rw [if_neg o, List.filter_eq_nil_iff]
      intro r hr
      obtain ⟨s, _, rfl⟩ := List.mem_map.mp hr
      rw [show ((fun s => p ++ s) ∘ fun s => x :: s) s = p ++ x :: s from rfl, heap_not o]
      exact Bool.false_ne_true
/-- extending keys by keys gives the heaps among all orders, in their order -/
theorem allH_perms (ks : List Int) (w : Nat) : allH ks w = (permsL ks.length ks).filter (heapB w) := by
  rw [bfs_dfs ks.length 0 (Nat.zero_add _)]
  show ([[]] : List (List Int)).flatMap _ = _
  rw [List.flatMap_cons, List.flatMap_nil, List.append_nil, ← dfs_perms ks.length [] (leftL ks []) rfl]
  refine congrArg (List.filter (heapB w)) ?_
  show (permsL ks.length ks).map (fun s => [] ++ s) = _
  simp
theorem insA_asc {x : Int} : ∀ {l : List Int}, l.Pairwise (· < ·) → (insA x l).Pairwise (· < ·)
  | [], _ => List.pairwise_singleton _ _
  | z :: l, h => by
    obtain ⟨h1, h2⟩ := List.pairwise_cons.mp h
    unfold insA
    by_cases a : x < z
    · rw [if_pos a]
      refine List.pairwise_cons.mpr ⟨fun y hy => ?_, h⟩
      rcases List.mem_cons.mp hy with e | e
      · rw [e]; exact a
      · exact Int.lt_trans a (h1 y e)
    · rw [if_neg a]
      by_cases b : x = z
      · rw [if_pos b]
        exact h
      · rw [if_neg b]
        refine List.pairwise_cons.mpr ⟨fun y hy => ?_, insA_asc h2⟩
        rcases insA_mem.mp hy with e | e
        · rw [e]; omega
        · exact h1 y e
theorem ascL_asc : ∀ l : List Int, (ascL l).Pairwise (· < ·)
  | [] => List.Pairwise.nil
  | x :: l => insA_asc (ascL_asc l)
theorem perms_asc : ∀ (n : Nat) (l : List Int), (permsL n l).Pairwise (· < ·)
  | 0, _ => List.pairwise_singleton _ _
  | n + 1, l => by
    unfold permsL
    rw [List.pairwise_flatMap]
    refine ⟨fun x _ => ?_, ?_⟩
    · rw [List.pairwise_map]
      exact (perms_asc n _).imp fun h => List.cons_lt_cons_iff.mpr (.inr ⟨rfl, h⟩)
    · refine (ascL_asc l).imp fun {x y} h a ha b hb => ?_
      obtain ⟨s, _, rfl⟩ := List.mem_map.mp ha
      obtain ⟨t, _, rfl⟩ := List.mem_map.mp hb
      exact List.cons_lt_cons_iff.mpr (.inl h)
theorem allH_asc (ks : List Int) (w : Nat) : (allH ks w).Pairwise (· < ·) := by
  rw [allH_perms]
  exact List.Pairwise.filter _ (perms_asc _ _)
theorem heap_fault_k21 (r : List Int) (w : Nat) : heapB w r = decide (faultL r w = []) := by
  have e : ∀ p, (decide (p = 0) || decide (r.getD ((p - 1) / w) 0 ≤ r.getD p 0)) = !faultB r w p := fun p => by
    unfold faultB
    by_cases h : p = 0
    · subst h
      simp
    · rw [decide_eq_false h, Bool.false_or, decide_eq_true (show 0 < p by omega), Bool.true_and]
      by_cases c : r.getD p 0 < r.getD ((p - 1) / w) 0
      · rw [decide_eq_true c, decide_eq_false (by omega)]
        rfl
      · rw [decide_eq_false c, decide_eq_true (by omega)]
        rfl
  unfold heapB faultL
  by_cases h : (List.range r.length).filter (faultB r w) = []
  · rw [decide_eq_true h, List.all_eq_true]
    intro p hp
    rw [e]
    rw [List.filter_eq_nil_iff] at h
    have := h p hp
    simpa using this
  · rw [decide_eq_false h]
    cases c : (List.range r.length).all fun c => decide (c = 0) || decide (r.getD ((c - 1) / w) 0 ≤ r.getD c 0) with
    | false => rfl
    | true =>
      exfalso
      refine h (List.filter_eq_nil_iff.mpr fun p hp z => ?_)
      have := List.all_eq_true.mp c p hp
      rw [e, z] at this
      cases this
theorem perms_perm : ∀ (n : Nat) (l r : List Int), l.length = n → r ∈ permsL n l → r.Perm l
  | 0, l, r, h, hr => by
    rw [List.mem_singleton.mp hr, List.length_eq_zero_iff.mp h]
  | n + 1, l, r, h, hr => by
    obtain ⟨x, hx, h2⟩ := List.mem_flatMap.mp hr
    obtain ⟨t, h3, rfl⟩ := List.mem_map.mp h2
    have hm := ascL_mem.mp hx
    have := perms_perm n (l.erase x) t (by rw [List.length_erase_of_mem hm]; omega) h3
    exact (this.cons x).trans (List.perm_cons_erase hm).symm
theorem allH_mem {ks r : List Int} {w : Nat} (h : r ∈ allH ks w) : r.Perm ks ∧ faultL r w = [] := by
  rw [allH_perms] at h
  obtain ⟨h1, h2⟩ := List.mem_filter.mp h
  rw [heap_fault_k21] at h2
  exact ⟨perms_perm _ _ _ rfl h1, of_decide_eq_true h2⟩
theorem insA_len (x : Int) : ∀ l : List Int, (insA x l).length ≤ l.length + 1
  | [] => Nat.le_refl _
  | y :: l => by
    unfold insA
    have := insA_len x l
    split
    · exact Nat.le_refl _
    · split
      · exact Nat.le_succ _
      · simp only [List.length_cons]
        omega
theorem ascL_len : ∀ l : List Int, (ascL l).length ≤ l.length
  | [] => Nat.le_refl _
  | x :: l => by
    have a := ascL_len l
    have b := insA_len x (ascL l)
    show (insA x (ascL l)).length ≤ l.length + 1
    omega
def behB (w : Nat) (ks : List Int) (p : Nat) : Bool := decide (keyAt ks (overP ks.length w) ≤ keyAt ks p)
def behL (w : Nat) (ks : List Int) : List Nat := (List.range ks.length).filter (behB w ks)
abbrev BSt := List Int × List (Int × Int) × Nat × Nat
def bstep (n w : Nat) (st : BSt) (p : Nat) : BSt := if kidL n w p = [] then st else
  ((goDown n w 20 st.1 p [p] 0).1, st.2.1 ++ [((p : Int), ((lastW (goDown n w 20 st.1 p [p] 0).2.1 : Nat) : Int))], st.2.2.1 + ((goDown n w 20 st.1 p [p] 0).2.1.length - 1), st.2.2.2 + (goDown n w 20 st.1 p [p] 0).2.2)
def bld (n w : Nat) (ks : List Int) : Nat → BSt
  | 0 => (ks, [], 0, 0)
  | i + 1 => bstep n w (bld n w ks i) (n - 1 - i)
/-- going down, undone -/
theorem down_undo {n w : Nat} (hw : 1 ≤ w) : ∀ (f : Nat) (ks : List Int) (p : Nat) (way : List Nat) (lk : Nat), ks.length = n → p < n →
    ∃ l, Down n w p l ∧ (goDown n w f ks p way lk).2.1 = way ++ l ∧ undoS (goDown n w f ks p way lk).1 (p :: l) = ks
  | 0, ks, p, way, lk, _, _ => ⟨[], trivial, by rw [List.append_nil]; rfl, rfl⟩
  | f + 1, ks, p, way, lk, hl, hp => by
    by_cases h0 : kidL n w p = []
    · rw [goDown_leaf h0]
      exact ⟨[], trivial, by rw [List.append_nil], rfl⟩
    · by_cases hlt : keyAt ks (leastC ks (kidL n w p)) < keyAt ks p
      · rw [goDown_go h0 rfl hlt]
        have hm := least_mem (ks := ks) h0
        generalize leastC ks (kidL n w p) = b at hm
        obtain ⟨b1, b2⟩ := kid_in hw hm
        obtain ⟨l, d1, d2, d3⟩ := down_undo hw f (swp ks p b) b (way ++ [b]) (lk + (kidL n w p).length) (by rw [swp_len]; exact hl) b2
        refine ⟨b :: l, ⟨hm, d1⟩, by rw [d2, List.append_assoc]; rfl, ?_⟩
        show swp (undoS _ (b :: l)) p b = ks
        rw [d3, swp_swp (by omega) (by omega)]
      · rw [goDown_stay h0 hlt]
        exact ⟨[], trivial, by rw [List.append_nil], rfl⟩
/-- the places of a subtree -/
def subL (n w i : Nat) : List Nat := (List.range n).filter fun j => decide (i ∈ wayL w j)
def prodS (n w : Nat) : Nat → Nat
  | 0 => 1
  | i + 1 => prodS n w i * (subL n w i).length
def howN (n w : Nat) : Nat := facN n / prodS n w n
theorem fac_ok : ∀ w, w < 5 → ∀ n, n < 13 → 1 ≤ w → howN n w * prodS n w n = facN n := by decide +kernel
theorem par_lt {w c : Nat} (h : 1 ≤ c) : (c - 1) / w < c := Nat.lt_of_le_of_lt (Nat.div_le_self _ _) (by omega)
theorem good_heapL {n w : Nat} {ks : List Int} (h : GoodFrom n w ks 0) : HeapL n w ks := fun c h1 h2 =>
  h ((c - 1) / w) (Nat.zero_le _) (by have := par_lt (w := w) h1; omega) c (mem_kid.mpr ⟨h1, h2, rfl⟩)
def plS (n w : Nat) : Nat → List Nat
  | 0 => []
  | i + 1 => if kidL n w (n - 1 - i) = [] then plS n w i else plS n w i ++ [n - 1 - i]
def prS (p e : Nat) : Int × Int := ((p : Int), (e : Int))
def stepA (n w : Nat) (ls : List (List (Int × Int))) (p : Nat) : List (List (Int × Int)) := ls.flatMap fun s => (subL n w p).map fun e => s ++ [prS p e]
def allA (n w : Nat) (ps : List Nat) : List (List (Int × Int)) := ps.foldl (stepA n w) [[]]
def pathL (w p s : Nat) : List Nat := (wayL w s).drop ((wayL w p).length - 1)
/-- stop by stop, from the last one on -/
def undoP (w : Nat) (R : List Int) (x : Int × Int) : List Int := undoS R (pathL w x.1.toNat x.2.toNat)
def unP (w : Nat) (ms : List Int) (s : List (Int × Int)) : List Int := s.foldr (fun x r => undoP w r x) ms
def rowsA (n w : Nat) (ms : List Int) : List (List Int) := (allA n w (plS n w n)).map (unP w ms)
/-- the stops of a row lead back to it -/
def bldF (n w : Nat) (ks : List Int) (p : Nat) : Nat := lastW (goDown n w 20 (bld n w ks (n - 1 - p)).1 p [p] 0).2.1
def backL (n w : Nat) (f : Nat → Nat) (R : List Int) : Nat → List Int
  | 0 => R
  | j + 1 => if kidL n w j = [] then backL n w f R j else undoS (backL n w f R j) (pathL w j (f j))
theorem down_res (n w : Nat) : ∀ f ks p way lk, (goDown n w f ks p way lk).1.length = ks.length
  | 0, ks, p, way, lk => rfl
  | f + 1, ks, p, way, lk => by
    unfold goDown
    split
    · rfl
    · split
      · rw [down_res n w f, swp_len]
      · rfl
theorem bld_len (n w : Nat) (ks : List Int) : ∀ i, (bld n w ks i).1.length = ks.length
  | 0 => rfl
  | i + 1 => by
    unfold bld bstep
    split
    · exact bld_len n w ks i
    · show (goDown n w 20 (bld n w ks i).1 _ _ 0).1.length = _
      rw [down_res, bld_len n w ks i]
theorem way_end (w p : Nat) (hw : 1 ≤ w ∧ w ≤ 4) (hp : p ≤ 12) : ∃ x, wayL w p = x ++ [p] := by
  by_cases h0 : p = 0
  · subst h0
    exact ⟨[], way_zero w (by omega) hw.1⟩
  · exact ⟨_, way_rec w p hw hp (by omega)⟩
theorem way_down {n w : Nat} (hw : 1 ≤ w ∧ w ≤ 4) (hn : n ≤ 12) : ∀ (l : List Nat) (p : Nat), p < n → Down n w p l → wayL w (endOf p l) = wayL w p ++ l
  | [], p, _, _ => (List.append_nil _).symm
  | b :: l, p, hp, ⟨hb, hd⟩ => by
    obtain ⟨b1, b2⟩ := kid_in hw.1 hb
    rw [end_cons, way_down hw hn l b b2 hd, way_rec w b hw (by omega) (by omega), (mem_kid.mp hb).2.2, List.append_assoc]
    rfl
end
end Tw

set_option Elab.async false
set_option linter.all false
set_option maxRecDepth 100000
set_option maxHeartbeats 2000000
namespace Tw
open PySem PySem.Spec PyProof.Rows L2
section
variable {P : Program} {w : World} {K : PySem.W.Frag} {mg : Str → Option Value} {base : Heap} {A : Ad}
open LamX (ExtN Tabs TabS)
theorem path_down {n w : Nat} (hw : 1 ≤ w ∧ w ≤ 4) (hn : n ≤ 12) {p : Nat} {l : List Nat} (hp : p < n) (hd : Down n w p l) : pathL w p (endOf p l) = p :: l := by
  obtain ⟨x, e⟩ := way_end w p hw (by omega)
  unfold pathL
  rw [way_down hw hn l p hp hd, e, List.length_append, List.length_singleton, Nat.add_sub_cancel, List.append_assoc, List.drop_append_of_le_length (Nat.le_refl _), List.drop_length]
  rfl
theorem back_succ (n w : Nat) (f : Nat → Nat) (R : List Int) (j : Nat) : backL n w f R (j + 1) = if kidL n w j = [] then backL n w f R j else undoS (backL n w f R j) (pathL w j (f j)) := rfl
theorem bld_succ (n w : Nat) (ks : List Int) (i : Nat) : bld n w ks (i + 1) = bstep n w (bld n w ks i) (n - 1 - i) := rfl
theorem back_bld {n w : Nat} (hw : 1 ≤ w ∧ w ≤ 4) (hn : n ≤ 12) {ks : List Int} (hl : ks.length = n) : ∀ j, j ≤ n → backL n w (bldF n w ks) (bld n w ks n).1 j = (bld n w ks (n - j)).1
  | 0, _ => rfl
  | j + 1, hj => by
    have ih := back_bld hw hn hl j (by omega)
    rw [back_succ]
    obtain ⟨m, em⟩ : ∃ m, n - j = m + 1 := ⟨n - j - 1, by omega⟩
    have e2 : n - (j + 1) = m := by omega
    have ep : n - 1 - m = j := by omega
    rw [em, bld_succ, ep] at ih
    unfold bstep at ih
    rw [e2]
    by_cases h0 : kidL n w j = []
    · rw [if_pos h0] at ih ⊢
      exact ih
    · rw [if_neg h0] at ih ⊢
      obtain ⟨l, d1, d2, d3⟩ := down_undo (n := n) hw.1 20 (bld n w ks m).1 j [j] 0 (by rw [bld_len]; exact hl) (by omega)
      have ef : bldF n w ks j = endOf j l := by
        unfold bldF
        rw [show n - 1 - j = m by omega, d2, last_end]
      rw [ih, ef, path_down hw hn (by omega) d1]
      exact d3
def stpL (n w : Nat) (f : Nat → Nat) : Nat → List (Int × Int)
  | 0 => []
  | i + 1 => if kidL n w (n - 1 - i) = [] then stpL n w f i else stpL n w f i ++ [(((n - 1 - i : Nat) : Int), ((f (n - 1 - i) : Nat) : Int))]
def StOk (n w : Nat) (f : Nat → Nat) : Prop := ∀ p, p < n → kidL n w p ≠ [] → f p ∈ subL n w p
theorem sub_down {n w : Nat} (hw : 1 ≤ w ∧ w ≤ 4) (hn : n ≤ 12) {p : Nat} {l : List Nat} (hp : p < n) (hd : Down n w p l) : endOf p l ∈ subL n w p := by
  obtain ⟨x, e⟩ := way_end w p hw (by omega)
  refine List.mem_filter.mpr ⟨List.mem_range.mpr (down_lt hw.1 l p hp hd).2.2, decide_eq_true ?_⟩
  rw [way_down hw hn l p hp hd, e]
  simp
theorem bldF_ok {n w : Nat} (hw : 1 ≤ w ∧ w ≤ 4) (hn : n ≤ 12) {ks : List Int} (hl : ks.length = n) : StOk n w (bldF n w ks) := fun p hp _ => by
  obtain ⟨l, d1, d2, _⟩ := down_undo hw.1 20 (bld n w ks (n - 1 - p)).1 p [p] 0 (by rw [bld_len]; exact hl) hp
  unfold bldF
  rw [d2, last_end]
  exact sub_down hw hn hp d1
theorem plS_mem {n w : Nat} : ∀ i, i ≤ n → ∀ p ∈ plS n w i, p < n ∧ kidL n w p ≠ []
  | 0, _, p, h => nomatch h
  | i + 1, hi, p, h => by
    unfold plS at h
    split at h
    · exact plS_mem i (by omega) p h
    · rename_i h0
      rcases List.mem_append.mp h with h | h
      · exact plS_mem i (by omega) p h
      · rw [List.mem_singleton.mp h]
        exact ⟨by omega, h0⟩
theorem stp_succ (n w : Nat) (f : Nat → Nat) (i : Nat) : stpL n w f (i + 1) = if kidL n w (n - 1 - i) = [] then stpL n w f i else stpL n w f i ++ [(((n - 1 - i : Nat) : Int), ((f (n - 1 - i) : Nat) : Int))] := rfl
theorem plS_succ (n w i : Nat) : plS n w (i + 1) = if kidL n w (n - 1 - i) = [] then plS n w i else plS n w i ++ [n - 1 - i] := rfl
theorem stp_pl (n w : Nat) (f : Nat → Nat) : ∀ i, stpL n w f i = (plS n w i).map fun (p : Nat) => ((p : Int), ((f p : Nat) : Int))
  | 0 => rfl
  | i + 1 => by
    rw [stp_succ, stp_pl n w f i, plS_succ]
    split
    · rfl
    · rw [List.map_append]
      rfl
theorem allA_snoc (n w : Nat) (ps : List Nat) (p : Nat) : allA n w (ps ++ [p]) = stepA n w (allA n w ps) p := by
  unfold allA
  rw [List.foldl_append]
  rfl
theorem rev_ind {α : Type} {P : List α → Prop} (h0 : P []) (h1 : ∀ l a, P l → P (l ++ [a])) (l : List α) : P l := by
  have : ∀ m : List α, P m.reverse := fun m => by
    induction m with
    | nil => exact h0
    | cons a m ih =>
      rw [List.reverse_cons]
      exact h1 _ _ ih
  have h := this l.reverse
  rw [List.reverse_reverse] at h
  exact h
theorem allA_mem (n w : Nat) (ps : List Nat) : ps.Nodup → ∀ s, s ∈ allA n w ps ↔ ∃ f : Nat → Nat, (∀ p ∈ ps, f p ∈ subL n w p) ∧ s = ps.map fun p => prS p (f p) := by
  refine rev_ind (P := fun ps => ps.Nodup → ∀ s, s ∈ allA n w ps ↔ ∃ f : Nat → Nat, (∀ p ∈ ps, f p ∈ subL n w p) ∧ s = ps.map fun p => prS p (f p)) (fun _ s => ?_) (fun l a ih hnd s => ?_) ps
  · refine ⟨fun h => ⟨fun x => x, fun p hp => (nomatch hp), List.mem_singleton.mp h⟩, fun ⟨f, _, e⟩ => ?_⟩
    rw [e]
    exact List.mem_singleton.mpr rfl
  · have hl : l.Nodup := (List.nodup_append.mp hnd).1
    have ha : a ∉ l := fun h => (List.nodup_append.mp hnd).2.2 a h a (List.mem_singleton.mpr rfl) rfl
    rw [allA_snoc]
    unfold stepA
    rw [List.mem_flatMap]
    refine ⟨fun ⟨t, ht, hs⟩ => ?_, fun ⟨f, hf, e⟩ => ?_⟩
    · obtain ⟨f, hf, rfl⟩ := (ih hl t).mp ht
      obtain ⟨e, he, rfl⟩ := List.mem_map.mp hs
      refine ⟨fun x => if x = a then e else f x, fun p hp => ?_, ?_⟩
      · rcases List.mem_append.mp hp with hp | hp
        · show (if p = a then e else f p) ∈ _
          rw [if_neg (fun z => by rw [z] at hp; exact ha hp)]
          exact hf p hp
        · rw [List.mem_singleton.mp hp]
          show (if a = a then e else f a) ∈ _
          rw [if_pos rfl]
          exact he
      · rw [List.map_append]
        show _ = _ ++ [prS a (if a = a then e else f a)]
        rw [if_pos rfl]
        congr 1
        refine List.map_congr_left fun p hp => ?_
        show _ = prS p (if p = a then e else f p)
        rw [if_neg (fun z => by rw [z] at hp; exact ha hp)]
    · refine ⟨l.map fun p => prS p (f p), (ih hl _).mpr ⟨f, fun p hp => hf p (List.mem_append_left _ hp), rfl⟩, List.mem_map.mpr ⟨f a, hf a (List.mem_append_right _ (List.mem_singleton.mpr rfl)), ?_⟩⟩
      rw [e, List.map_append]
      rfl
theorem plS_lo (n w : Nat) : ∀ i, i ≤ n → (plS n w i).Nodup ∧ ∀ p ∈ plS n w i, n - i ≤ p
  | 0, _ => ⟨List.nodup_nil, fun p hp => (nomatch hp)⟩
  | i + 1, hi => by
    obtain ⟨a, b⟩ := plS_lo n w i (by omega)
    rw [plS_succ]
    by_cases h0 : kidL n w (n - 1 - i) = []
    · rw [if_pos h0]
      exact ⟨a, fun p hp => by have := b p hp; omega⟩
    · rw [if_neg h0]
      refine ⟨List.nodup_append.mpr ⟨a, List.nodup_cons.mpr ⟨List.not_mem_nil, List.nodup_nil⟩, fun x hx y hy z => ?_⟩, fun p hp => ?_⟩
      · rw [List.mem_singleton] at hy
        have := b x hx
        omega
      · rcases List.mem_append.mp hp with hp | hp
        · have := b p hp
          omega
        · rw [List.mem_singleton] at hp
          omega
theorem plS_all (n w p : Nat) : ∀ i, i ≤ n → n - i ≤ p → p < n → kidL n w p ≠ [] → p ∈ plS n w i
  | 0, _, h, h2, _ => by omega
  | i + 1, hi, h, h2, h3 => by
    rw [plS_succ]
    by_cases hp : p = n - 1 - i
    · rw [← hp, if_neg h3]
      exact List.mem_append_right _ (List.mem_singleton.mpr rfl)
    · have ih := plS_all n w p i (by omega) (by omega) h2 h3
      split
      · exact ih
      · exact List.mem_append_left _ ih
/-- all stops are the stops of a choice -/
theorem all_stops_mem {n w : Nat} (s : List (Int × Int)) : s ∈ allA n w (plS n w n) ↔ ∃ f : Nat → Nat, StOk n w f ∧ s = stpL n w f n := by
  rw [allA_mem n w _ (plS_lo n w n (Nat.le_refl _)).1]
  refine ⟨fun ⟨f, hf, e⟩ => ⟨f, fun p hp h0 => hf p (plS_all n w p n (Nat.le_refl _) (by omega) hp h0), ?_⟩, fun ⟨f, hf, e⟩ => ⟨f, fun p hp => ?_, ?_⟩⟩
  · rw [e, stp_pl]
    rfl
  · have := plS_mem n (Nat.le_refl _) p hp
    exact hf p this.1 this.2
  · rw [e, stp_pl]
    rfl
theorem back_stp {n w : Nat} {f : Nat → Nat} {R : List Int} : ∀ i, i ≤ n → (stpL n w f i).foldr (fun x r => undoP w r x) (backL n w f R (n - i)) = backL n w f R n
  | 0, _ => rfl
  | i + 1, hi => by
    have ih := back_stp (n := n) (w := w) (f := f) (R := R) i (by omega)
    have e : n - i = (n - 1 - i) + 1 := by omega
    rw [e, back_succ] at ih
    rw [show n - (i + 1) = n - 1 - i by omega, stp_succ]
    by_cases h0 : kidL n w (n - 1 - i) = []
    · rw [if_pos h0] at ih ⊢
      exact ih
    · rw [if_neg h0] at ih ⊢
      rw [List.foldr_append]
      show List.foldr _ (undoP w (backL n w f R (n - 1 - i)) (((n - 1 - i : Nat) : Int), ((f (n - 1 - i) : Nat) : Int))) _ = _
      unfold undoP
      rw [Int.toNat_natCast, Int.toNat_natCast]
      exact ih
theorem un_back {n w : Nat} (f : Nat → Nat) (R : List Int) : unP w R (stpL n w f n) = backL n w f R n := by
  have h := back_stp (n := n) (w := w) (f := f) (R := R) n (Nat.le_refl _)
  rw [Nat.sub_self] at h
  exact h
theorem swp_perm {ks : List Int} {a b : Nat} (ha : a < ks.length) (hb : b < ks.length) : (swp ks a b).Perm ks := by
  have e1 : keyAt ks a = ks[a] := by unfold keyAt; rw [List.getD_eq_getElem?_getD, List.getElem?_eq_getElem ha]; rfl
  have e2 : keyAt ks b = ks[b] := by unfold keyAt; rw [List.getD_eq_getElem?_getD, List.getElem?_eq_getElem hb]; rfl
  unfold swp
  rw [e1, e2]
  exact List.set_set_perm ha hb
theorem undo_perm {n w : Nat} (hw : 1 ≤ w) {R : List Int} (hl : R.length = n) : ∀ (l : List Nat) (p : Nat), p < n → Down n w p l → (undoS R (p :: l)).Perm R
  | [], p, _, _ => List.Perm.refl _
  | b :: l, p, hp, ⟨hb, hd⟩ => by
    obtain ⟨b1, b2⟩ := kid_in hw hb
    show (swp (undoS R (b :: l)) p b).Perm R
    exact (swp_perm (by rw [undo_len]; omega) (by rw [undo_len]; omega)).trans (undo_perm hw hl l b b2 hd)
/-- a way undone leaves what stands behind good -/
theorem undo_good {n w : Nat} (hw : 1 ≤ w) {R : List Int} (hl : R.length = n) {p : Nat} {l : List Nat} (hp : p < n) (g : GoodFrom n w R p) (hd : Down n w p l) : GoodFrom n w (undoS R (p :: l)) (p + 1) := by
  have at_ := undo_at hw hl l p hp hd
  obtain ⟨h1, _, _⟩ := down_lt hw l p hp hd
  intro q hq hqn c hc
  obtain ⟨c1, c2⟩ := kid_in hw hc
  have pc := (mem_kid.mp hc).2.2
  have gq := g q (by omega) hqn c hc
  rw [at_ q, at_ c, if_neg (show ¬ q = p by omega), if_neg (show ¬ c = p by omega)]
  by_cases e1 : q ∈ l
  · rw [if_pos e1]
    have up : keyAt R ((q - 1) / w) ≤ keyAt R q := by
      have hk : q ∈ kidL n w ((q - 1) / w) := mem_kid.mpr ⟨by omega, hqn, rfl⟩
      have hge : p ≤ (q - 1) / w := by
        rcases down_mem l p hd q e1 with z | z
        · omega
        · have := h1 _ z
          omega
      have hlt : (q - 1) / w < n := by
        have : (q - 1) / w ≤ q - 1 := Nat.div_le_self _ _
        omega
      exact g _ hge hlt q hk
    by_cases e2 : c ∈ l
    · rw [if_pos e2, pc]
      exact up
    · rw [if_neg e2]
      omega
  · have e2 : c ∉ l := fun z => by
      rcases down_mem l p hd c z with y | y
      · omega
      · rw [pc] at y
        exact e1 y
    rw [if_neg e1, if_neg e2]
    exact gq
theorem down_snoc {n w : Nat} : ∀ (l : List Nat) (p b : Nat), Down n w p l → b ∈ kidL n w (endOf p l) → Down n w p (l ++ [b])
  | [], p, b, _, hb => ⟨hb, trivial⟩
  | c :: l, p, b, ⟨h1, h2⟩, hb => ⟨h1, down_snoc l c b h2 (by rw [end_cons] at hb; exact hb)⟩
theorem end_snoc (l : List Nat) (p b : Nat) : endOf p (l ++ [b]) = b := by
  unfold endOf
  rw [List.getLastD_eq_getLast?, List.getLast?_append]
  rfl
theorem of_sub {n w : Nat} (hw : 1 ≤ w ∧ w ≤ 4) (hn : n ≤ 12) : ∀ (k s p : Nat), s ≤ k → s < n → p ∈ wayL w s → ∃ l, Down n w p l ∧ endOf p l = s
  | 0, s, p, hk, hs, hm => by
    obtain rfl : s = 0 := by omega
    rw [way_zero w (by omega) hw.1] at hm
    rw [List.mem_singleton.mp hm]
    exact ⟨[], trivial, rfl⟩
  | k + 1, s, p, hk, hs, hm => by
    by_cases h0 : s = 0
    · subst h0
      rw [way_zero w (by omega) hw.1] at hm
      rw [List.mem_singleton.mp hm]
      exact ⟨[], trivial, rfl⟩
    · rw [way_rec w s hw (by omega) (by omega)] at hm
      have hlt : (s - 1) / w ≤ s - 1 := Nat.div_le_self _ _
      rcases List.mem_append.mp hm with hm | hm
      · obtain ⟨l, h1, h2⟩ := of_sub hw hn k ((s - 1) / w) p (by omega) (by omega) hm
        exact ⟨l ++ [s], down_snoc l p s h1 (by rw [h2]; exact mem_kid.mpr ⟨by omega, hs, rfl⟩), end_snoc l p s⟩
      · rw [List.mem_singleton.mp hm]
        exact ⟨[], trivial, rfl⟩
theorem st_path {n w : Nat} {f : Nat → Nat} (hw : 1 ≤ w ∧ w ≤ 4) (hn : n ≤ 12) (h : StOk n w f) {p : Nat} (hp : p < n) (h0 : kidL n w p ≠ []) : ∃ l, Down n w p l ∧ endOf p l = f p ∧ pathL w p (f p) = p :: l := by
  obtain ⟨h1, h2⟩ := List.mem_filter.mp (h p hp h0)
  obtain ⟨l, a, b⟩ := of_sub hw hn (f p) (f p) p (Nat.le_refl _) (List.mem_range.mp h1) (of_decide_eq_true h2)
  exact ⟨l, a, b, by rw [← b]; exact path_down hw hn hp a⟩
theorem back_ok {n w : Nat} {f : Nat → Nat} (hw : 1 ≤ w ∧ w ≤ 4) (hn : n ≤ 12) (h : StOk n w f) {R : List Int} (hl : R.length = n) (g : GoodFrom n w R 0) : ∀ j, j ≤ n → (backL n w f R j).length = n ∧ (backL n w f R j).Perm R ∧ GoodFrom n w (backL n w f R j) j
  | 0, _ => ⟨hl, List.Perm.refl _, g⟩
  | j + 1, hj => by
    obtain ⟨a, b, c⟩ := back_ok hw hn h hl g j (by omega)
    unfold backL
    by_cases h0 : kidL n w j = []
    · rw [if_pos h0]
      exact ⟨a, b, fun p h1 h2 => c p (by omega) h2⟩
    · rw [if_neg h0]
      obtain ⟨l, d1, d2, d3⟩ := st_path hw hn h (show j < n by omega) h0
      rw [d3]
      exact ⟨by rw [undo_len]; exact a, (undo_perm hw.1 a l j (by omega) d1).trans b, undo_good hw.1 a (by omega) c d1⟩
/-- what is built of a row behind some stops -/
theorem bld_back {n w : Nat} {f : Nat → Nat} (hw : 1 ≤ w ∧ w ≤ 4) (hn : n ≤ 12) (h : StOk n w f) {R : List Int} (hl : R.length = n) (hd : R.Nodup) (g : GoodFrom n w R 0) : ∀ i, i ≤ n →
    (bld n w (backL n w f R n) i).1 = backL n w f R (n - i) ∧ (bld n w (backL n w f R n) i).2.1 = stpL n w f i
  | 0, _ => ⟨rfl, rfl⟩
  | i + 1, hi => by
    obtain ⟨ih1, ih2⟩ := bld_back hw hn h hl hd g i (by omega)
    have e : n - i = (n - 1 - i) + 1 := by omega
    have e2 : n - (i + 1) = n - 1 - i := by omega
    rw [e, back_succ] at ih1
    rw [e2, bld_succ, stp_succ]
    unfold bstep
    obtain ⟨a, b, c⟩ := back_ok hw hn h hl g (n - 1 - i) (by omega)
    generalize hp : n - 1 - i = p at *
    by_cases h0 : kidL n w p = []
    · rw [if_pos h0, if_pos h0]
      rw [if_pos h0] at ih1
      exact ⟨ih1, ih2⟩
    · rw [if_neg h0, if_neg h0]
      rw [if_neg h0] at ih1
      obtain ⟨l, d1, d2, d3⟩ := st_path hw hn h (show p < n by omega) h0
      rw [d3] at ih1
      obtain ⟨r1, r2⟩ := undo_down hw.1 a (b.nodup_iff.mpr hd) l 20 p [p] 0 (by omega) (by omega) c d1
      rw [ih1]
      refine ⟨r1, ?_⟩
      show (bld n w (backL n w f R n) i).2.1 ++ [_] = _
      rw [ih2, r2]
      have : lastW ([p] ++ l) = f p := by
        rw [← d2]
        unfold lastW endOf
        cases l with
        | nil => rfl
        | cons c l => simp [List.getLastD]
      rw [this]
theorem rows_code {n w : Nat} (hw : 1 ≤ w ∧ w ≤ 4) (hn : n ≤ 12) {ms : List Int} (hl : ms.length = n) (hd : ms.Nodup) (g : GoodFrom n w ms 0) {s : List (Int × Int)} (hs : s ∈ allA n w (plS n w n)) :
    (bld n w (unP w ms s) n).1 = ms ∧ (bld n w (unP w ms s) n).2.1 = s ∧ (unP w ms s).Perm ms := by
  obtain ⟨f, hf, rfl⟩ := (all_stops_mem s).mp hs
  rw [un_back]
  obtain ⟨a, b⟩ := bld_back hw hn hf hl hd g n (Nat.le_refl _)
  rw [Nat.sub_self] at a
  exact ⟨a, b, (back_ok hw hn hf hl g n (Nat.le_refl _)).2.1⟩
theorem rows_mem {n w : Nat} (hw : 1 ≤ w ∧ w ≤ 4) (hn : n ≤ 12) {ms : List Int} (hl : ms.length = n) (hd : ms.Nodup) (g : GoodFrom n w ms 0) (r : List Int) : r ∈ rowsA n w ms ↔ r.length = n ∧ (bld n w r n).1 = ms := by
  refine ⟨fun h => ?_, fun ⟨h1, h2⟩ => ?_⟩
  · obtain ⟨s, hs, rfl⟩ := List.mem_map.mp h
    obtain ⟨a, _, c⟩ := rows_code hw hn hl hd g hs
    exact ⟨c.length_eq.trans hl, a⟩
  · have hb := back_bld hw hn h1 n (Nat.le_refl _)
    rw [Nat.sub_self, h2] at hb
    refine List.mem_map.mpr ⟨stpL n w (bldF n w r) n, (all_stops_mem _).mpr ⟨_, bldF_ok hw hn h1, rfl⟩, ?_⟩
    rw [un_back, hb]
    rfl
theorem sub_nodup (n w p : Nat) : (subL n w p).Nodup := List.Pairwise.filter _ List.nodup_range
theorem allA_nodup (n w : Nat) (ps : List Nat) : (allA n w ps).Nodup := by
  refine rev_ind (P := fun ps => (allA n w ps).Nodup) (List.nodup_cons.mpr ⟨List.not_mem_nil, List.nodup_nil⟩) (fun l p ih => ?_) ps
  rw [allA_snoc]
  unfold stepA
  refine List.pairwise_flatMap.mpr ⟨fun s _ => ?_, ih.imp fun hst x hx y hy z => ?_⟩
  · refine List.pairwise_map.mpr ((sub_nodup n w p).imp fun h z => h ?_)
    have h2 := List.append_cancel_left z
    have h3 : prS p _ = prS p _ := List.head_eq_of_cons_eq h2
    have h4 := congrArg Prod.snd h3
    exact Int.ofNat.inj h4
  · obtain ⟨e, _, rfl⟩ := List.mem_map.mp hx
    obtain ⟨e2, _, rfl⟩ := List.mem_map.mp hy
    exact hst (List.append_inj_left' z rfl)
theorem rows_nodup {n w : Nat} (hw : 1 ≤ w ∧ w ≤ 4) (hn : n ≤ 12) {ms : List Int} (hl : ms.length = n) (hd : ms.Nodup) (g : GoodFrom n w ms 0) : (rowsA n w ms).Nodup := by
  refine List.pairwise_map.mpr ((allA_nodup n w (plS n w n)).imp_of_mem fun {s t} hs ht h z => h ?_)
  rw [← (rows_code hw hn hl hd g hs).2.1, ← (rows_code hw hn hl hd g ht).2.1, z]
theorem down_perm {n w : Nat} (hw : 1 ≤ w) : ∀ (f : Nat) (ks : List Int) (cur : Nat) (way : List Nat) (lk : Nat), ks.length = n → cur < n → ((goDown n w f ks cur way lk).1).Perm ks
  | 0, ks, cur, way, lk, hl, hc => List.Perm.refl _
  | f + 1, ks, cur, way, lk, hl, hc => by
    by_cases h0 : kidL n w cur = []
    · rw [goDown_leaf h0]
    · obtain ⟨b1, b2⟩ := kid_in hw (least_mem (ks := ks) h0)
      by_cases hlt : keyAt ks (leastC ks (kidL n w cur)) < keyAt ks cur
      · rw [goDown_go h0 rfl hlt]
        exact (down_perm hw f _ _ _ _ (by rw [swp_len]; exact hl) b2).trans (swp_perm (by omega) (by omega))
      · rw [goDown_stay h0 hlt]
theorem bld_perm {n w : Nat} (hw : 1 ≤ w) {ks : List Int} (hl : ks.length = n) : ∀ i, i ≤ n → ((bld n w ks i).1).Perm ks
  | 0, _ => List.Perm.refl _
  | i + 1, hi => by
    have ih := bld_perm hw hl i (by omega)
    unfold bld bstep
    split
    · exact ih
    · exact (down_perm hw 20 _ _ _ _ (by rw [bld_len]; exact hl) (by omega)).trans ih
theorem perm_mem : ∀ (r l : List Int), r.Perm l → r ∈ permsL r.length l
  | [], _, _ => List.mem_singleton.mpr rfl
  | x :: t, l, h => by
    have hm : x ∈ l := h.mem_iff.mp List.mem_cons_self
    refine List.mem_flatMap.mpr ⟨x, ascL_mem.mpr hm, List.mem_map.mpr ⟨t, perm_mem t _ ?_, rfl⟩⟩
    exact (List.perm_cons x).mp (h.trans (List.perm_cons_erase hm))
theorem m1 : ¬ (("row" : Str) = "way") := by decide +kernel
theorem m2 : ¬ (("row" : Str) = "looks") := by decide +kernel
theorem m3 : ¬ (("way" : Str) = "looks") := by decide +kernel
theorem down_good {n w i : Nat} (hw : 1 ≤ w) : ∀ (f : Nat) (ks : List Int) (cur : Nat) (way : List Nat) (lk : Nat), ks.length = n → i ≤ cur → cur < n → n - cur ≤ f →
    (∀ p, i ≤ p → p < n → p ≠ cur → goodAt n w ks p) → (∀ q, i ≤ q → q < n → cur ∈ kidL n w q → ∀ c ∈ kidL n w cur, keyAt ks q ≤ keyAt ks c) → GoodFrom n w (goDown n w f ks cur way lk).1 i
  | 0, ks, cur, way, lk, hl, hi, hc, hf, g, up => absurd hf (by omega)
  | f + 1, ks, cur, way, lk, hl, hi, hc, hf, g, up => by
    by_cases h0 : kidL n w cur = []
    · rw [goDown_leaf h0]
      intro p h1 h2
      by_cases e : p = cur
      · subst e
        intro c hc
        rw [h0] at hc
        cases hc
      · exact g p h1 h2 e
    · generalize eb : leastC ks (kidL n w cur) = b
      have hm : b ∈ kidL n w cur := eb ▸ least_mem h0
      have hle : ∀ c ∈ kidL n w cur, keyAt ks b ≤ keyAt ks c := fun c hc => eb ▸ least_le hc
      obtain ⟨b1, b2⟩ := kid_in hw hm
      by_cases hlt : keyAt ks b < keyAt ks cur
      · rw [goDown_go h0 eb hlt]
        have ka : cur < ks.length := by omega
        have kb : b < ks.length := by omega
        refine down_good hw f _ b _ _ (by rw [swp_len]; exact hl) (by omega) b2 (by omega) (fun p h1 h2 hp c hcp => ?_) (fun q h1 h2 hq c hcb => ?_)
        · rw [keyAt_swp ka kb, keyAt_swp ka kb, if_neg hp]
          obtain ⟨m1, m2, m3⟩ := mem_kid.mp hcp
          by_cases e : p = cur
          · subst e
            rw [if_pos rfl]
            by_cases ec : c = b
            · rw [if_pos ec]
              omega
            · have := (kid_in hw hcp).1
              rw [if_neg ec, if_neg (by omega)]
              exact hle c hcp
          · rw [if_neg e]
            by_cases ec : c = b
            · subst ec
              exact absurd ((mem_kid.mp hm).2.2.symm.trans m3) (fun z => e z.symm)
            · rw [if_neg ec]
              by_cases ec2 : c = cur
              · subst ec2
                rw [if_pos rfl]
                exact up p h1 h2 hcp b hm
              · rw [if_neg ec2]
                exact g p h1 h2 e c hcp
        · have eq : q = cur := (mem_kid.mp hq).2.2.symm.trans (mem_kid.mp hm).2.2
          subst eq
          have := (kid_in hw hcb).1
          rw [keyAt_swp ka kb, keyAt_swp ka kb, if_neg (by omega), if_pos rfl, if_neg (by omega), if_neg (by omega)]
          exact g b (by omega) b2 (by omega) c hcb
      · rw [goDown_stay h0 (by rw [eb]; exact hlt)]
        intro p h1 h2
        by_cases e : p = cur
        · subst e
          intro c hc
          exact Int.le_trans (Int.not_lt.mp hlt) (hle c hc)
        · exact g p h1 h2 e
end
end Tw

set_option Elab.async false
set_option linter.all false
set_option maxRecDepth 100000
set_option maxHeartbeats 2000000
namespace Tw
open PySem PySem.Spec PyProof.Rows L2
section
variable {P : Program} {w : World} {K : PySem.W.Frag} {mg : Str → Option Value} {base : Heap} {A : Ad}
open LamX (ExtN Tabs TabS)
theorem bld_good {n w : Nat} (hw : 1 ≤ w) (hn : n ≤ 12) {ks : List Int} (hl : ks.length = n) : ∀ i, i ≤ n → GoodFrom n w (bld n w ks i).1 (n - i)
  | 0, _ => fun p h1 h2 => absurd h1 (by omega)
  | i + 1, hi => by
    have ih := bld_good hw hn hl i (by omega)
    unfold bld bstep
    split
    · rename_i h0
      intro p h1 h2
      by_cases e : p = n - 1 - i
      · subst e
        intro c hc
        rw [h0] at hc
        cases hc
      · exact ih p (by omega) h2
    · refine down_good hw 20 _ _ _ _ (by rw [bld_len]; exact hl) (by omega) (by omega) (by omega) (fun p h1 h2 hp => ih p (by omega) h2) (fun q h1 h2 hq => ?_)
      have := (kid_in hw hq).1
      exact absurd h1 (by omega)
theorem bld_fault {n w : Nat} (hw : 1 ≤ w) (hn : n ≤ 12) {r : List Int} (hl : r.length = n) : GoodFrom n w (bld n w r n).1 0 ∧ faultL (bld n w r n).1 w = [] ∧ heapB w (bld n w r n).1 = true := by
  have g := bld_good hw hn hl n (Nat.le_refl _)
  rw [Nat.sub_self] at g
  have hb : heapB w (bld n w r n).1 = true := heapB_iff.mpr fun c h1 h2 => good_heapL g c h1 (by rw [bld_len, hl] at h2; exact h2)
  exact ⟨g, of_decide_eq_true ((heap_fault_k21 _ w).symm.trans hb), hb⟩
theorem grp_perm {n w : Nat} {ks r0 : List Int} (hw : 1 ≤ w ∧ w ≤ 4) (hn : n ≤ 12) (hl : ks.length = n) (hd : ks.Nodup) (h0 : r0 ∈ permsL n ks) :
    ((permsL n ks).filter fun r => decide ((bld n w r n).1 = (bld n w r0 n).1)).Perm (rowsA n w (bld n w r0 n).1) := by
  have p0 := perms_perm n ks r0 hl h0
  have l0 : r0.length = n := p0.length_eq.trans hl
  have pb : (bld n w r0 n).1.Perm r0 := bld_perm hw.1 l0 n (Nat.le_refl _)
  obtain ⟨g, _, _⟩ := bld_fault hw.1 hn l0
  have hbl : (bld n w r0 n).1.length = n := pb.length_eq.trans l0
  have hbd : (bld n w r0 n).1.Nodup := (pb.trans p0).nodup_iff.mpr hd
  refine (List.perm_ext_iff_of_nodup (List.Pairwise.filter _ ((perms_asc n ks).imp fun h e => by rw [e] at h; exact List.lt_irrefl _ h)) (rows_nodup hw hn hbl hbd g)).mpr fun r => ?_
  rw [List.mem_filter, rows_mem hw hn hbl hbd g, decide_eq_true_eq]
  refine ⟨fun ⟨a, b⟩ => ⟨(perms_perm n ks r hl a).length_eq.trans hl, b⟩, fun ⟨a, b⟩ => ⟨?_, b⟩⟩
  have p1 : (bld n w r n).1.Perm r := bld_perm hw.1 a n (Nat.le_refl _)
  rw [b] at p1
  have := perm_mem r ks ((p1.symm.trans pb).trans p0)
  rw [a] at this
  exact this
theorem heapL_good {n w : Nat} {ks : List Int} (h : HeapL n w ks) : GoodFrom n w ks 0 := fun p _ hp c hc => by
  obtain ⟨h1, h2, h3⟩ := mem_kid.mp hc
  have := h c h1 h2
  rw [h3] at this
  exact this
theorem heaps_iff {n w : Nat} {ks : List Int} (hw : 1 ≤ w ∧ w ≤ 4) (hn : n ≤ 12) (hl : ks.length = n) (hd : ks.Nodup) (ms : List Int) : ms ∈ allH ks w ↔ ∃ r ∈ permsL n ks, (bld n w r n).1 = ms := by
  refine ⟨fun h => ?_, fun ⟨r, hr, e⟩ => ?_⟩
  · obtain ⟨p, f⟩ := allH_mem h
    have lm : ms.length = n := p.length_eq.trans hl
    have hb : heapB w ms = true := (heap_fault_k21 _ w).trans (decide_eq_true f)
    have g : GoodFrom n w ms 0 := heapL_good fun c h1 h2 => heapB_iff.mp hb c h1 (by rw [lm]; exact h2)
    obtain ⟨a, b, c⟩ := rows_code hw hn lm (p.nodup_iff.mpr hd) g ((all_stops_mem _).mpr ⟨_, bldF_ok hw hn lm, rfl⟩)
    refine ⟨_, ?_, a⟩
    have := perm_mem _ ks (c.trans p)
    rw [c.length_eq, lm] at this
    exact this
  · have p := perms_perm n ks r hl hr
    have lr : r.length = n := p.length_eq.trans hl
    obtain ⟨_, _, hb⟩ := bld_fault hw.1 hn lr
    have pb : (bld n w r n).1.Perm r := bld_perm hw.1 lr n (Nat.le_refl _)
    rw [← e, allH_perms]
    refine List.mem_filter.mpr ⟨?_, hb⟩
    have := perm_mem _ ks (pb.trans p)
    rw [pb.length_eq, lr] at this
    rw [hl]
    exact this
theorem outRow_len {ks : List Int} (h : 2 ≤ ks.length) : (outRow ks).length = ks.length - 1 := by
  unfold outRow
  rw [List.length_cons, List.length_take, List.length_drop]
  omega
def prodA (n w : Nat) (ps : List Nat) : Nat := ps.foldl (fun a p => a * (subL n w p).length) 1
theorem prod_eq : ∀ w, w < 5 → ∀ n, n < 13 → 1 ≤ w → prodA n w (plS n w n) = prodS n w n := by decide +kernel
theorem prod_ok : ∀ w, w < 5 → ∀ n, n < 13 → 1 ≤ w → 1 ≤ prodS n w n ∧ prodS n w n < 1073741824 := by decide +kernel
theorem root_way : ∀ w, w < 5 → ∀ i, i < 13 → 1 ≤ w → 0 ∈ wayL w i := by decide +kernel
theorem prodA_snoc (n w : Nat) (ps : List Nat) (p : Nat) : prodA n w (ps ++ [p]) = prodA n w ps * (subL n w p).length := by
  unfold prodA
  rw [List.foldl_append]
  rfl
theorem step_len (n w : Nat) (p : Nat) : ∀ ls : List (List (Int × Int)), (stepA n w ls p).length = ls.length * (subL n w p).length
  | [] => by simp [stepA]
  | s :: ls => by
    have ih := step_len n w p ls
    unfold stepA at ih ⊢
    rw [List.flatMap_cons, List.length_append, List.length_map, ih, List.length_cons, Nat.succ_mul, Nat.add_comm]
theorem allA_len (n w : Nat) (ps : List Nat) : (allA n w ps).length = prodA n w ps := by
  refine rev_ind (P := fun ps => (allA n w ps).length = prodA n w ps) rfl (fun l a ih => ?_) ps
  rw [allA_snoc, prodA_snoc, step_len, ih]
theorem rows_len (n w : Nat) (ms : List Int) : (rowsA n w ms).length = prodA n w (plS n w n) := by
  unfold rowsA
  rw [List.length_map, allA_len]
theorem head_cons {ks : List Int} (h : 1 ≤ ks.length) : ks = ks.getD 0 0 :: ks.drop 1 := by
  cases ks with
  | nil => exact absurd h (by decide)
  | cons a b => rfl
theorem outRow_perm {ks : List Int} (h : 2 ≤ ks.length) : (ks.getD 0 0 :: outRow ks).Perm ks := by
  have e := head_cons (ks := ks) (by omega)
  have d : ks.drop 1 = (ks.drop 1).take (ks.length - 2) ++ [ks.getD (ks.length - 1) 0] := by
    have x : (ks.drop 1).take (ks.length - 2) ++ [(ks.drop 1)[ks.length - 2]'(by rw [List.length_drop]; omega)] = (ks.drop 1).take (ks.length - 2 + 1) := List.take_append_getElem (by rw [List.length_drop]; omega)
    have x2 : (ks.drop 1).take (ks.length - 2 + 1) = ks.drop 1 := List.take_of_length_le (by rw [List.length_drop]; omega)
    have y : (ks.drop 1)[ks.length - 2]'(by rw [List.length_drop]; omega) = ks.getD (ks.length - 1) 0 := by
      rw [List.getElem_drop, List.getD_eq_getElem?_getD, List.getElem?_eq_getElem (by omega)]
      simp only [Option.getD_some]
      congr 1
      omega
    rw [y] at x
    exact x2.symm.trans x.symm
  have p : (outRow ks).Perm (ks.drop 1) := by
    refine List.Perm.trans (?_ : (outRow ks).Perm ((ks.drop 1).take (ks.length - 2) ++ [ks.getD (ks.length - 1) 0])) (List.Perm.of_eq d.symm)
    unfold outRow
    exact (List.perm_append_singleton _ _).symm
  exact (List.Perm.cons _ p).trans (List.Perm.of_eq e.symm)
theorem outRow_key {ks : List Int} {p : Nat} (h1 : 1 ≤ p) (h2 : p < ks.length - 1) : keyAt (outRow ks) p = keyAt ks p := by
  unfold keyAt outRow
  obtain ⟨p, rfl⟩ : ∃ p', p = p' + 1 := ⟨p - 1, by omega⟩
  rw [List.getD_eq_getElem?_getD, List.getD_eq_getElem?_getD, List.getElem?_cons_succ, List.getElem?_take_of_lt (by omega), List.getElem?_drop, Nat.add_comm 1 p]
  rfl
theorem take_ok {w : Nat} (hw : 1 ≤ w) {ks : List Int} (hl : ks.length ≤ 12) (hp : 1 ≤ ks.length) (h : HeapL ks.length w ks) :
    (takeR ks w).1.length = ks.length - 1 ∧ HeapL (ks.length - 1) w (takeR ks w).1 ∧ (ks.getD 0 0 :: (takeR ks w).1).Perm ks := by
  unfold takeR
  by_cases h1 : ks.length = 1
  · rw [if_pos h1]
    refine ⟨by rw [h1]; rfl, fun c h2 h3 => by omega, ?_⟩
    have e := head_cons hp
    rw [List.drop_eq_nil_of_le (by omega)] at e
    exact List.Perm.of_eq e.symm
  · rw [if_neg h1]
    have h2 : 2 ≤ ks.length := by omega
    have hlo := outRow_len h2
    refine ⟨by rw [down_res]; exact hlo, good_heapL (down_good hw 20 _ 0 _ _ hlo (Nat.le_refl _) (by omega) (by omega) (fun p _ hp2 hp0 c hc => ?_) (fun q _ _ hq => ?_)), ?_⟩
    · obtain ⟨m1, m2, m3⟩ := mem_kid.mp hc
      rw [outRow_key (by omega) hp2, outRow_key m1 m2]
      have := h c m1 (by omega)
      rw [m3] at this
      exact this
    · have := (kid_in hw hq).1
      omega
    · exact (List.Perm.cons _ (down_perm hw 20 _ _ _ _ hlo (by omega))).trans (outRow_perm h2)
end
end Tw

set_option Elab.async false
set_option linter.all false
set_option maxRecDepth 100000
set_option maxHeartbeats 2000000
namespace Tw
open PySem PySem.Spec PyProof.Rows L2
section
variable {P : Program} {w : World} {K : PySem.W.Frag} {mg : Str → Option Value} {base : Heap} {A : Ad}
open LamX (ExtN Tabs TabS)
/-! what is taken, counted: root_way no_fault take_ok keyAt keyAt_mem permsL ascL ascL_mem ascL_asc ascL_len facN howN prodS prod_ok fac_ok allH allH_mem allH_perms perms_asc perms_perm perm_mem heaps_iff grp_perm rows_len prod_eq bld befP ahdL ahd_bef ahd_heap ahd_len down_undo way_down of_sub down_lt undo_perm undo_len overP behB behL outRow outRow_len takeR goDown lastW endOf Down fault_heap heapB heapB_iff heap_fault good_heapL allH_asc -/
theorem fac_step : ∀ n, n < 12 → facN (n + 1) = (n + 1) * facN n := by decide +kernel
theorem len_perms : ∀ (n : Nat) (l : List Int), n ≤ 12 → l.length = n → l.Nodup → (permsL n l).length = facN n
  | 0, _, _, _, _ => rfl
  | n + 1, l, hn, hl, hd => by
    have hp : (ascL l).Perm l := (List.perm_ext_iff_of_nodup ((ascL_asc l).imp fun h e => by rw [e] at h; exact absurd h (Int.lt_irrefl _)) hd).mpr fun x => ascL_mem
    have go : ∀ m : List Int, (∀ x ∈ m, x ∈ l) → (m.flatMap fun x => (permsL n (l.erase x)).map fun s => x :: s).length = m.length * facN n := fun m => by
      induction m with
      | nil => intro _; simp
      | cons x m ih =>
        intro h
        have hx := h x List.mem_cons_self
        rw [List.flatMap_cons, List.length_append, List.length_map, ih fun y hy => h y (List.mem_cons_of_mem _ hy), len_perms n (l.erase x) (by omega) (by rw [List.length_erase_of_mem hx]; omega) (hd.erase x), List.length_cons, Nat.succ_mul]
        omega
    have e : permsL (n + 1) l = (ascL l).flatMap fun x => (permsL n (l.erase x)).map fun s => x :: s := rfl
    rw [e, go (ascL l) fun x hx => ascL_mem.mp hx, hp.length_eq, hl, fac_step n (by omega)]
theorem part_len {α : Type} (g : α → List Int) (L : List α) : ∀ M : List (List Int), M.Nodup → (L.filter fun r => decide (g r ∈ M)).length = (M.map fun m => (L.filter fun r => decide (g r = m)).length).sum
  | [], _ => by
    rw [List.filter_eq_nil_iff.mpr fun r _ h => by simp at h]
    rfl
  | m :: M, hd => by
    rw [List.nodup_cons] at hd
    rw [List.map_cons, List.sum_cons, ← part_len g L M hd.2]
    have hd1 := hd.1
    clear hd
    induction L with
    | nil => rfl
    | cons r L ih =>
      have ih := ih
      by_cases h1 : g r = m
      · have h2 : g r ∉ M := by rw [h1]; exact hd1
        rw [List.filter_cons_of_pos (p := fun r => decide (g r ∈ m :: M)) (decide_eq_true (by rw [h1]; exact List.mem_cons_self)), List.filter_cons_of_pos (p := fun r => decide (g r = m)) (decide_eq_true h1), List.filter_cons_of_neg (p := fun r => decide (g r ∈ M)) (by rw [decide_eq_true_eq]; exact h2), List.length_cons, List.length_cons, ih]
        omega
      · by_cases h2 : g r ∈ M
        · rw [List.filter_cons_of_pos (p := fun r => decide (g r ∈ m :: M)) (decide_eq_true (List.mem_cons_of_mem _ h2)), List.filter_cons_of_neg (p := fun r => decide (g r = m)) (by rw [decide_eq_true_eq]; exact h1), List.filter_cons_of_pos (p := fun r => decide (g r ∈ M)) (decide_eq_true h2), List.length_cons, List.length_cons, ih]
          omega
        · rw [List.filter_cons_of_neg (p := fun r => decide (g r ∈ m :: M)) (by rw [decide_eq_true_eq, List.mem_cons]; exact fun h => h.elim h1 h2), List.filter_cons_of_neg (p := fun r => decide (g r = m)) (by rw [decide_eq_true_eq]; exact h1), List.filter_cons_of_neg (p := fun r => decide (g r ∈ M)) (by rw [decide_eq_true_eq]; exact h2), ih]
theorem sum_const {β : Type} (f : β → Nat) (c : Nat) : ∀ M : List β, (∀ m ∈ M, f m = c) → (M.map f).sum = M.length * c
  | [], _ => by simp
  | m :: M, h => by
    rw [List.map_cons, List.sum_cons, sum_const f c M fun x hx => h x (List.mem_cons_of_mem _ hx), h m List.mem_cons_self, List.length_cons, Nat.succ_mul]
    omega
/-- how many heaps there are -/
theorem heaps_len {n w : Nat} {ks : List Int} (hw : 1 ≤ w ∧ w ≤ 4) (hn : n ≤ 12) (hl : ks.length = n) (hd : ks.Nodup) : (allH ks w).length = howN n w := by
  have nd2 : (allH ks w).Nodup := (allH_asc ks w).imp fun h e => by rw [e] at h; exact List.lt_irrefl _ h
  have h1 := part_len (fun r => (bld n w r n).1) (permsL n ks) (allH ks w) nd2
  have h2 : (permsL n ks).length = ((allH ks w).map fun m => ((permsL n ks).filter fun r => decide ((bld n w r n).1 = m)).length).sum := by
    rw [← h1]
    congr 1
    refine (List.filter_eq_self.mpr fun r hr => ?_).symm
    rw [decide_eq_true_eq]
    exact (heaps_iff hw hn hl hd _).mpr ⟨r, hr, rfl⟩
  clear h1
  have h1 := h2
  rw [sum_const _ (prodS n w n) _ fun ms hm => ?_, len_perms n ks hn hl hd] at h1
  · have h3 := fac_ok w (by omega) n (by omega) hw.1
    have h4 := (prod_ok w (by omega) n (by omega) hw.1).1
    rw [← h3] at h1
    exact (Nat.eq_of_mul_eq_mul_right h4 h1).symm
  · obtain ⟨r0, hr0, e⟩ := (heaps_iff hw hn hl hd ms).mp hm
    subst e
    rw [(grp_perm hw hn hl hd hr0).length_eq, rows_len, prod_eq w (by omega) n (by omega) hw.1]
/-! where a taking comes from -/
theorem bef_ahd {n w : Nat} {ks bs : List Int} {least : Int} {place : Nat} (hw : 1 ≤ w ∧ w ≤ 4) (hn : n ≤ 11) (hl : ks.length = n) (h1 : 1 ≤ n) (hb : befP w ks bs least place) : place < n ∧ bs = ahdL w ks least place := by
  obtain ⟨b1, b2, b3, b4, b5⟩ := hb
  have hbl : bs.length = n + 1 := by rw [b1, hl]
  have ho : (outRow bs).length = n := by rw [outRow_len (by omega), hbl]; omega
  have hne : ¬ bs.length = 1 := by omega
  unfold takeR at b4 b5
  rw [if_neg hne, hbl, Nat.add_sub_cancel] at b4 b5
  obtain ⟨l, d1, d2, d3⟩ := down_undo hw.1 20 (outRow bs) 0 [0] 0 ho (show 0 < n by omega)
  rw [b4] at d3
  rw [d2] at b5
  have he : endOf 0 l = place := by
    rw [← b5]
    exact (last_end 0 l).symm
  obtain ⟨_, _, hp⟩ := down_lt hw.1 l 0 (show 0 < n by omega) d1
  have hway := way_down hw (show n ≤ 12 by omega) l 0 (show 0 < n by omega) d1
  rw [he] at hway hp
  have hw0 : wayL w place = 0 :: l := by
    rw [hway]
    rfl
  refine ⟨hp, ?_⟩
  unfold ahdL
  rw [hw0, d3, ← b3]
  unfold outRow
  rw [List.drop_one, List.tail_cons, List.take_succ_cons, List.take_zero, hbl]
  refine List.ext_getElem (by simp; omega) fun i h2 h3 => ?_
  rw [List.getElem_cons]
  by_cases hi : i = 0
  · subst hi
    rw [dif_pos rfl, List.getD_eq_getElem?_getD, List.getElem?_eq_getElem h2]
    rfl
  · rw [dif_neg hi, List.getElem_append]
    by_cases hi2 : i < n
    · rw [dif_pos (by rw [List.length_take, List.length_drop]; omega), List.getElem_take, List.getElem_drop]
      congr 1
      omega
    · rw [dif_neg (by rw [List.length_take, List.length_drop]; omega), List.getElem_singleton, List.getD_eq_getElem?_getD, List.getElem?_eq_getElem (by omega)]
      show bs[i] = bs[_]
      congr 1
      omega
/-- the key of a heap's taking -/
def kB (w : Nat) (bs : List Int) : Nd.Pk := ((takeR bs w).1, ((lastW (takeR bs w).2.1 : Nat) : Int))
theorem ahd_ok {n w : Nat} {ks : List Int} {least : Int} {place : Nat} (hw : 1 ≤ w ∧ w ≤ 4) (hn : n ≤ 11) (hl : ks.length = n) (hf : faultL ks w = []) (hnd : ks.Nodup) (hlt : ∀ z ∈ ks, least < z) (hp : place < n) :
    (¬ keyAt ks (overP n w) > keyAt ks place → befP w ks (ahdL w ks least place) least place) ∧ (faultL (ahdL w ks least place) w = [] ↔ ¬ keyAt ks (overP n w) > keyAt ks place) ∧ (ahdL w ks least place).Perm (ks ++ [least]) := by
  have hz := root_way w (by omega) place (by omega) hw.1
  obtain ⟨l, d1, d2⟩ := of_sub hw (show n ≤ 12 by omega) place place 0 (Nat.le_refl _) hp hz
  have hway := way_down hw (show n ≤ 12 by omega) l 0 (show 0 < n by omega) d1
  rw [d2] at hway
  have hw0 : wayL w place = 0 :: l := by
    rw [hway]
    rfl
  refine ⟨fun hng => ahd_bef hw hn hl hf hnd hlt hp d1 hw0 d2 hng, (ahd_heap hw hn hl hf hlt hp d1 hw0 d2).1, ?_⟩
  unfold ahdL
  rw [hw0]
  have hpm := undo_perm hw.1 hl l 0 (show 0 < n by omega) d1
  have h2 : ((undoS ks (0 :: l)).drop 1 ++ (undoS ks (0 :: l)).take 1).Perm (undoS ks (0 :: l)) := List.perm_append_comm.trans (by rw [List.take_append_drop])
  exact (List.Perm.cons least (h2.trans hpm)).trans (List.perm_append_comm (l₁ := [least]) (l₂ := ks))
theorem take_bef {n w : Nat} {ks bs : List Int} {least : Int} (hw : 1 ≤ w ∧ w ≤ 4) (hn : n ≤ 11) (hl : ks.length = n) (h1 : 1 ≤ n) (hlt : ∀ z ∈ ks, least < z) (hb : bs ∈ allH (ks ++ [least]) w) :
    befP w (takeR bs w).1 bs least (lastW (takeR bs w).2.1) ∧ (takeR bs w).1 ∈ allH ks w ∧ (takeR bs w).1.length = n := by
  obtain ⟨pm, hf⟩ := allH_mem hb
  have hbl : bs.length = n + 1 := by
    rw [pm.length_eq, List.length_append, hl]
    rfl
  have hh := fault_heap hw (show n + 1 ≤ 12 by omega) hbl hf
  obtain ⟨t1, t2, t3⟩ := take_ok (ks := bs) hw.1 (by omega) (by omega) (by rw [hbl]; exact hh)
  rw [hbl, Nat.add_sub_cancel] at t1 t2
  have h0 : bs.getD 0 0 = least := by
    have hm : bs.getD 0 0 ∈ bs := keyAt_mem (p := 0) (by omega)
    have hin := pm.mem_iff.mp hm
    rcases List.mem_append.mp hin with h | h
    · exfalso
      obtain ⟨j, hj, e⟩ := List.getElem_of_mem (pm.mem_iff.mpr (List.mem_append_right ks (List.mem_singleton.mpr rfl)))
      have := no_fault hw (show bs.length ≤ 12 by omega) hf j hj 0 (root_way w (by omega) j (by omega) hw.1)
      have h2 := hlt _ h
      have e2 : bs.getD j 0 = least := by
        rw [List.getD_eq_getElem?_getD, List.getElem?_eq_getElem hj, e]
        rfl
      rw [e2] at this
      omega
    · exact List.mem_singleton.mp h
  have pk : (takeR bs w).1.Perm ks := by
    rw [h0] at t3
    exact (List.perm_cons least).mp (t3.trans (pm.trans (List.perm_append_comm (l₁ := ks) (l₂ := [least]))))
  refine ⟨⟨by rw [hbl, t1], hf, h0, rfl, rfl⟩, ?_, t1⟩
  rw [allH_perms]
  refine List.mem_filter.mpr ⟨?_, heapB_iff.mpr fun c c1 c2 => t2 c c1 (by rw [t1] at c2; exact c2)⟩
  have := perm_mem _ ks pk
  rw [pk.length_eq] at this
  exact this
theorem beh_iff {w p : Nat} {ks : List Int} : p ∈ behL w ks ↔ p < ks.length ∧ ¬ keyAt ks (overP ks.length w) > keyAt ks p := by
  unfold behL behB
  rw [List.mem_filter, List.mem_range, decide_eq_true_eq, Int.not_lt]
/-- of a heap and a place -/
theorem ahd_all {n w : Nat} {ks h : List Int} {least : Int} {p : Nat} (hw : 1 ≤ w ∧ w ≤ 4) (hn : n ≤ 11) (hl : ks.length = n) (hd : ks.Nodup) (hlt : ∀ z ∈ ks, least < z) (hh : h ∈ allH ks w) (hp : p < n) (hng : ¬ keyAt h (overP n w) > keyAt h p) :
    ahdL w h least p ∈ allH (ks ++ [least]) w ∧ kB w (ahdL w h least p) = (h, ((p : Nat) : Int)) ∧ befP w h (ahdL w h least p) least p := by
  obtain ⟨pm, hf⟩ := allH_mem hh
  have hhl : h.length = n := pm.length_eq.trans hl
  obtain ⟨a1, a2, a3⟩ := ahd_ok (least := least) hw hn hhl hf (pm.nodup_iff.mpr hd) (fun z hz => hlt z (pm.mem_iff.mp hz)) hp
  have b := a1 hng
  have pk : (ahdL w h least p).Perm (ks ++ [least]) := a3.trans (List.Perm.append_right [least] pm)
  refine ⟨?_, ?_, b⟩
  · rw [allH_perms]
    have hal : (ahdL w h least p).length = n + 1 := by rw [pk.length_eq, List.length_append, hl]; rfl
    refine List.mem_filter.mpr ⟨?_, heapB_iff.mpr fun c c1 c2 => fault_heap hw (show n + 1 ≤ 12 by omega) hal (a2.mpr hng) c c1 (by rw [hal] at c2; exact c2)⟩
    have := perm_mem _ _ pk
    rw [pk.length_eq] at this
    exact this
  · unfold kB
    rw [b.2.2.2.1, b.2.2.2.2]
theorem key_one {n w : Nat} {ks h bs : List Int} {least : Int} {p : Nat} (hw : 1 ≤ w ∧ w ≤ 4) (hn : n ≤ 11) (hl : ks.length = n) (h1 : 1 ≤ n) (hd : ks.Nodup) (hlt : ∀ z ∈ ks, least < z) (hh : h ∈ allH ks w) (hb : bs ∈ allH (ks ++ [least]) w) (e : kB w bs = (h, ((p : Nat) : Int))) :
    p < n ∧ bs = ahdL w h least p ∧ ¬ keyAt h (overP n w) > keyAt h p := by
  obtain ⟨pm, hf⟩ := allH_mem hh
  have hhl : h.length = n := pm.length_eq.trans hl
  obtain ⟨b, _, _⟩ := take_bef hw hn hl h1 hlt hb
  have e1 : (takeR bs w).1 = h := congrArg Prod.fst e
  have e2 : lastW (takeR bs w).2.1 = p := Int.ofNat.inj (congrArg Prod.snd e)
  rw [e1, e2] at b
  obtain ⟨hp, eb⟩ := bef_ahd hw hn hhl h1 b
  obtain ⟨_, a2, _⟩ := ahd_ok (least := least) hw hn hhl hf (pm.nodup_iff.mpr hd) (fun z hz => hlt z (pm.mem_iff.mp hz)) hp
  exact ⟨hp, eb, a2.mp (by rw [← eb]; exact b.2.1)⟩
theorem kB_inj {n w : Nat} {ks : List Int} {least : Int} (hw : 1 ≤ w ∧ w ≤ 4) (hn : n ≤ 11) (hl : ks.length = n) (h1 : 1 ≤ n) (hd : ks.Nodup) (hlt : ∀ z ∈ ks, least < z) {bs cs : List Int} (hb : bs ∈ allH (ks ++ [least]) w) (hc : cs ∈ allH (ks ++ [least]) w) (e : kB w bs = kB w cs) : bs = cs := by
  obtain ⟨_, hm, _⟩ := take_bef hw hn hl h1 hlt hb
  rw [(key_one hw hn hl h1 hd hlt hm hb (p := lastW (takeR bs w).2.1) rfl).2.1, (key_one hw hn hl h1 hd hlt hm hc (p := lastW (takeR bs w).2.1) e.symm).2.1]
theorem beh_sum {n w : Nat} {ks : List Int} {least : Int} (hw : 1 ≤ w ∧ w ≤ 4) (hn : n ≤ 11) (hl : ks.length = n) (h1 : 1 ≤ n) (hd : ks.Nodup) (hlt : ∀ z ∈ ks, least < z) : ((allH ks w).map fun h => (behL w h).length).sum = howN (n + 1) w := by
  have hd' : (ks ++ [least]).Nodup := List.nodup_append.mpr ⟨hd, List.nodup_cons.mpr ⟨List.not_mem_nil, List.nodup_nil⟩, fun x hx y hy z => by
    rw [List.mem_singleton] at hy
    have := hlt x hx
    omega⟩
  have hl' : (ks ++ [least]).length = n + 1 := by rw [List.length_append, hl]; rfl
  rw [← heaps_len hw (show n + 1 ≤ 12 by omega) hl' hd']
  have hX : ((allH ks w).flatMap fun h => (behL w h).map fun p => ahdL w h least p).Perm (allH (ks ++ [least]) w) := by
    have inn : ∀ h ∈ allH ks w, ∀ p ∈ behL w h, ahdL w h least p ∈ allH (ks ++ [least]) w ∧ kB w (ahdL w h least p) = (h, ((p : Nat) : Int)) := fun h hh p hp => by
      have hhl : h.length = n := (allH_mem hh).1.length_eq.trans hl
      have hp := beh_iff.mp hp
      rw [hhl] at hp
      obtain ⟨a, b, _⟩ := ahd_all hw hn hl hd hlt hh hp.1 hp.2
      exact ⟨a, b⟩
    refine (List.perm_ext_iff_of_nodup (List.pairwise_flatMap.mpr ⟨fun h hh => ?_, ?_⟩) ((allH_asc _ w).imp fun h e => by rw [e] at h; exact List.lt_irrefl _ h)).mpr fun bs => ?_
    · refine List.pairwise_map.mpr ((List.Pairwise.filter _ List.nodup_range).imp_of_mem fun {p q} hp hq hne e => hne ?_)
      have e1 := (inn h hh p hp).2
      rw [e, (inn h hh q hq).2] at e1
      exact Int.ofNat.inj (congrArg Prod.snd e1).symm
    · have ndH : (allH ks w).Nodup := (allH_asc ks w).imp fun h e => by rw [e] at h; exact List.lt_irrefl _ h
      refine ndH.imp_of_mem fun {a b} ha hb hne x hx y hy e => hne ?_
      obtain ⟨p, hp, rfl⟩ := List.mem_map.mp hx
      obtain ⟨q, hq, rfl⟩ := List.mem_map.mp hy
      have e1 := (inn a ha p hp).2
      rw [e, (inn b hb q hq).2] at e1
      exact (congrArg Prod.fst e1).symm
    · rw [List.mem_flatMap]
      refine ⟨fun ⟨h, hh, hx⟩ => ?_, fun hb => ?_⟩
      · obtain ⟨p, hp, rfl⟩ := List.mem_map.mp hx
        exact (inn h hh p hp).1
      · obtain ⟨_, hm, hml⟩ := take_bef hw hn hl h1 hlt hb
        obtain ⟨k1, k2, k3⟩ := key_one hw hn hl h1 hd hlt hm hb (p := lastW (takeR bs w).2.1) rfl
        exact ⟨_, hm, List.mem_map.mpr ⟨_, beh_iff.mpr (by rw [hml]; exact ⟨k1, k3⟩), k2.symm⟩⟩
  have hs : ∀ L : List (List Int), (L.flatMap fun h => (behL w h).map fun p => ahdL w h least p).length = (L.map fun h => (behL w h).length).sum := fun L => by
    induction L with
    | nil => rfl
    | cons h L ih => rw [List.flatMap_cons, List.length_append, List.length_map, ih, List.map_cons, List.sum_cons]
  rw [← hs, hX.length_eq]
instance decBef (w : Nat) (ks bs : List Int) (least : Int) (place : Nat) : Decidable (befP w ks bs least place) := by unfold befP; infer_instance

end
end Tw

set_option Elab.async false
set_option linter.all false
set_option maxRecDepth 100000
set_option maxHeartbeats 2000000
namespace Tw
open PySem PySem.Spec PyProof.Rows L2
section
variable {P : Program} {w : World} {K : PySem.W.Frag} {mg : Str → Option Value} {base : Heap} {A : Ad}
open LamX (ExtN Tabs TabS)
/-- a list or a tuple -/
def Sq (H : Hp) (a : Addr) (xs : List V) : Prop := H a = some (.lst xs) ∨ H a = some (.tup xs)
def RowIn (H : Hp) (a : Addr) (ns : List Int) : Prop := Sq H a (ns.map V.int) ∧ ns.length ≤ 12 ∧ (∀ n ∈ ns, -1000000000 ≤ n ∧ n ≤ 1000000000)
structure HpD (H : Hp) (r w : Nat) (ks : List Int) : Prop where
  hw : 1 ≤ w ∧ w ≤ 4
  row : RowIn H r ks
  fl : faultL ks w = []
  nd : ks.Nodup
  h1 : 1 ≤ ks.length
theorem b_hwr (T : Tx K mg A) : L2.Binds K A.d_heap_with_room ["row", "arms"] [] := T.F_heap_with_room.binds fun _ _ _ _ _ _ us hl => match us, hl with | [_, _], _ => rfl
theorem b_pon (T : Tx K mg A) : L2.Binds K A.d_place_over_next ["heap", "arms"] [] := T.F_place_over_next.binds fun _ _ _ _ _ _ us hl => match us, hl with | [_, _], _ => rfl
theorem el_key {l : List Int} {i : Nat} (h : i < l.length) : l[i] = keyAt l i := by
  unfold keyAt
  rw [List.getD_eq_getElem?_getD, List.getElem?_eq_getElem h]
  rfl
theorem key_at {ks : List Int} {p : Nat} (h : p < ks.length) : atI (ks.map V.int) (p : Int) = some (V.int (keyAt ks p)) := by
  have e : (ks.map V.int)[p]? = some (V.int (keyAt ks p)) := by
    unfold keyAt
    rw [List.getElem?_map, List.getD_eq_getElem?_getD, List.getElem?_eq_getElem h]
    rfl
  exact atI_nat e
theorem kpb (T : Tx K mg A) : ∃ mv : List Value, KBn K A.d_places_behind ["row", "arms"] 1 ["arms"] (fun us ws => us ++ (mv ++ ws)) (fun vs zs => vs ++ zs) := by
  obtain ⟨mv, h⟩ := T.F_places_behind.kbinds0 (ps := ["row", "arms"]) 1 ["arms"] [] (fun us mv ws => us ++ (mv ++ ws)) (by simp) (by simp) (fun r1 r2 r3 => r1.append (r2.append r3))
    (fun D doc pm an cdv ct us mv ws h1 h2 h3 => by
      match us, mv, ws, h1, h2, h3 with
      | [a], [], [e], _, _, _ => rfl)
  exact ⟨mv, h⟩
theorem b_dh (T : Tx K mg A) : L2.Binds K A.d_different_heap_of ["row", "arms"] [] := T.F_different_heap_of.binds fun _ _ _ _ _ _ us hl => match us, hl with | [_, _], _ => rfl
theorem cst {x : Str} {n : Int} (h : mg x = some (.int n 0) ∨ ∃ t, mg x = some (.int n t)) : ∃ t, mg x = some (.int n t) := h.elim (fun e => ⟨0, e⟩) id
theorem Sq.same {H H' : Hp} {a : Addr} {xs : List V} (h : Sq H a xs) (s : Same H H') : Sq H' a xs := h.elim (fun e => .inl (s _ _ e)) fun e => .inr (s _ _ e)
/-- the places of a tree -/
def pl (n : Nat) : List V := (List.range n).map fun i => V.int (i : Nat)
/-- its attributes -/
def tf (n w t : Nat) : List (Str × V) := putF "_places" (.ref t) (putF "arms" (.int w) (putF "many" (.int n) []))
/-- a tree of n places and w arms stands at p -/
structure TreeAt (C : Addr) (H : Hp) (p n w : Nat) : Prop where
  ob : ∃ dx t, H p = some (.ins C dx (tf n w t)) ∧ H t = some (.tup (pl n))
  hn : n ≤ 12
  hw : 1 ≤ w ∧ w ≤ 4
theorem TreeAt.same {C : Addr} {H H' : Hp} {p n w : Nat} (h : TreeAt C H p n w) (s : Same H H') : TreeAt C H' p n w :=
  ⟨let ⟨dx, t, a, b⟩ := h.ob; ⟨dx, t, s _ _ a, s _ _ b⟩, h.hn, h.hw⟩
def vi (l : List Nat) : List V := l.map fun i => V.int (i : Nat)
theorem RowIn.same {H H' : Hp} {a : Addr} {ns : List Int} (h : RowIn H a ns) (s : Same H H') : RowIn H' a ns := ⟨h.1.same s, h.2⟩
theorem b_par (T : Tx K mg A) : L2.Binds K A.d_t_parent ["self", "place"] [] := T.F_t_parent.binds fun _ _ _ _ _ _ us hl => match us, hl with | [_, _], _ => rfl
theorem kb_of (T : Tx K mg A) : ∃ mv : List Value, KBn K A.d_t_of ["cls", "row", "arms"] 2 ["arms"] (fun us ws => us ++ (mv ++ ws)) (fun vs zs => vs ++ zs) := by
  obtain ⟨mv, h⟩ := T.F_t_of.kbinds0 (ps := ["cls", "row", "arms"]) 2 ["arms"] [] (fun us mv ws => us ++ (mv ++ ws)) (by simp) (by simp) (fun r1 r2 r3 => r1.append (r2.append r3))
    (fun D doc pm an cdv ct us mv ws h1 h2 h3 => by
      match us, mv, ws, h1, h2, h3 with
      | [a, b], [], [c], _, _, _ => rfl)
  exact ⟨mv, h⟩
theorem tf_pl (n w t : Nat) : (tf n w t).lookup ("_places" : Str) = some (.ref t) := by
  unfold tf
  rw [lookup_putF, if_pos rfl]
theorem tf_no (n w t : Nat) {m : Str} (h1 : ¬ m = "many") (h2 : ¬ m = "arms") (h3 : ¬ m = "_places") : (tf n w t).lookup m = none := by
  unfold tf
  rw [lookup_putF, if_neg h3, lookup_putF, if_neg h2, lookup_putF, if_neg h1]
  rfl
theorem kb_init (T : Tx K mg A) : ∃ mv : List Value, KBn K A.d_t___init__ ["self", "many", "arms"] 2 ["arms"] (fun us ws => us ++ (mv ++ ws)) (fun vs zs => vs ++ zs) := by
  obtain ⟨mv, h⟩ := T.F_t___init__.kbinds0 (ps := ["self", "many", "arms"]) 2 ["arms"] [] (fun us mv ws => us ++ (mv ++ ws)) (by simp) (by simp) (fun r1 r2 r3 => r1.append (r2.append r3))
    (fun D doc pm an cdv ct us mv ws h1 h2 h3 => by
      match us, mv, ws, h1, h2, h3 with
      | [a, b], [], [c], _, _, _ => rfl)
  exact ⟨mv, h⟩
/-- True just for ints -/
def spIs (K : PySem.W.Frag) : Sp := fun vs H Q _ => ∃ x : V, vs = [x] ∧
  ((∃ i, x = .int i ∧ Q (.bl true) H) ∨ (∃ n b1 b2, TyX K H x (.type n) ∧ kitB n "int" = some b1 ∧ kitB n "bool" = some b2 ∧ (b1 && !b2) = false ∧ Q (.bl false) H))
theorem ok_is (T : Tx K mg A) : FnOk P w K mg base CX0 1 A.f_is_integer A.d_is_integer ["thing"] (spIs K) := by
  refine T.F_is_integer.ok sc_is_integer (fun vs H Q E h => ?_) (fun cdv B outer s H vs Q E hr h => ?_)
  · obtain ⟨x, rfl, _⟩ := h
    rfl
  · obtain ⟨x, rfl, h⟩ := h
    refine ⟨_, pss_one (ps_ret (pe_and (pe_callB call_isi (by rfl) T.g_isinstance (by decide +kernel) (pa_cons (pv 0) (pa_cons (pe_bltn (v := .ty "int") (by rfl) T.g_int (by decide +kernel) rfl) pa_nil)))
      (pe_one (pe_not (pe_callB call_isi (by rfl) T.g_isinstance (by decide +kernel) (pa_cons (pv 0) (pa_cons (pe_bltn (v := .ty "bool") (by rfl) T.g_bool (by decide +kernel) rfl) pa_nil))))))), ?_⟩
    rcases h with ⟨i, rfl, q⟩ | ⟨n, b1, b2, ty, k1, k2, hb, q⟩
    · refine ⟨_, rfl, _, _, .type "int", .type "int", true, rfl, .ty "int", .base (.int i), kit_ty (by decide +kernel), true, rfl, iteT ?_⟩
      exact ⟨_, rfl, _, _, .type "int", .type "bool", false, rfl, .ty "bool", .base (.int i), kit_ty (by decide +kernel), false, rfl, q⟩
    · refine ⟨_, rfl, _, _, .type n, .type "int", b1, rfl, .ty "int", ty, kit_ty k1, b1, rfl, ?_⟩
      cases b1 with
      | false => exact iteF q
      | true =>
        cases b2 with
        | false => cases hb
        | true => exact iteT ⟨_, rfl, _, _, .type n, .type "bool", true, rfl, .ty "bool", ty, kit_ty k2, true, rfl, q⟩
theorem b_is (T : Tx K mg A) : L2.Binds K A.d_is_integer ["thing"] [] := T.F_is_integer.binds fun _ _ _ _ _ _ us hl => match us, hl with | [_], _ => rfl
/-- True just for ints within; other things by their class -/
def spII (K : PySem.W.Frag) : Sp := fun vs H Q _ => ∃ (x : V) (a b : Int), vs = [x, .int a, .int b] ∧
  ((∃ i, x = .int i ∧ Q (.bl (decide (a ≤ i ∧ i ≤ b))) H) ∨ (∃ n b1 b2, TyX K H x (.type n) ∧ kitB n "int" = some b1 ∧ kitB n "bool" = some b2 ∧ (b1 && !b2) = false ∧ Q (.bl false) H))
theorem ok_ii (T : Tx K mg A) : FnOk P w K mg base CX0 2 A.f_is_integer_from A.d_is_integer_from ["thing", "least", "greatest"] (spII K) := by
  refine T.F_is_integer_from.ok sc_is_integer_from (fun vs H Q E h => ?_) (fun cdv B outer s H vs Q E hr h => ?_)
  · obtain ⟨x, a, b, rfl, _⟩ := h
    rfl
  · obtain ⟨x, a, b, rfl, h⟩ := h
    refine ⟨_, pss_one (ps_ret (pe_and (pe_call (ok_is T) hr (by rfl) T.m_is_integer T.F_is_integer.kp (b_is T) .nil pass0 (pa_cons (pv 0) pa_nil))
        (pe_one (pe_chain op_le op_le (pv 1) (pv 0) (pv 2))))), ?_⟩
    rcases h with ⟨i, rfl, q⟩ | h
    · refine ⟨_, rfl, _, rfl, .inl ⟨i, rfl, true, rfl, iteT ?_⟩⟩
      refine ⟨_, rfl, _, rfl, _, _, rfl, rfl, _, rfl, ?_⟩
      by_cases h1 : a ≤ i
      · rw [decide_eq_true h1]
        refine iteT ⟨_, rfl, _, _, rfl, rfl, ?_⟩
        have e : decide (a ≤ i ∧ i ≤ b) = decide (i ≤ b) := by simp [h1]
        rw [e] at q
        exact q
      · rw [decide_eq_false h1]
        have e : decide (a ≤ i ∧ i ≤ b) = false := by simp [h1]
        rw [e] at q
        exact iteF q
    · obtain ⟨n, b1, b2, ty, k1, k2, hb, q⟩ := h
      exact ⟨_, rfl, _, rfl, .inr ⟨n, b1, b2, ty, k1, k2, hb, false, rfl, iteF q⟩⟩
theorem b_ii (T : Tx K mg A) : L2.Binds K A.d_is_integer_from ["thing", "least", "greatest"] [] := T.F_is_integer_from.binds fun _ _ _ _ _ _ us hl => match us, hl with | [_, _, _], _ => rfl
def spCa : Sp := fun vs H Q _ => ∃ i : Int, vs = [.int i] ∧ (1 ≤ i ∧ i ≤ 4) ∧ Q .non H
theorem ok_ca (T : Tx K mg A) : FnOk P w K mg base CX0 3 A.f_check_arms A.d_check_arms ["arms"] spCa := by
  refine T.F_check_arms.ok sc_check_arms (fun vs H Q E h => ?_) (fun cdv B outer s H vs Q E hr h => ?_)
  · obtain ⟨i, rfl, _⟩ := h
    rfl
  · obtain ⟨i, rfl, hi, q⟩ := h
    obtain ⟨t, hg⟩ := cst T.c_MOST_ARMS
    refine ⟨_, pss_one (ps_if (pt_not (pt_val (pe_call (ok_ii T) hr (by rfl) T.m_is_integer_from T.F_is_integer_from.kp (b_ii T) .nil pass0
      (pa_cons (pv 0) (pa_cons pe_int (pa_cons (pe_glob (by rfl) hg (relI _ _)) pa_nil)))))) (pss_one ps_never) pss_nil), ?_⟩
    refine ⟨_, rfl, _, _, _, rfl, .inl ⟨i, rfl, _, rfl, ?_⟩⟩
    rw [decide_eq_true hi]
    exact iteF q
theorem b_ca (T : Tx K mg A) : L2.Binds K A.d_check_arms ["arms"] [] := T.F_check_arms.binds fun _ _ _ _ _ _ us hl => match us, hl with | [_], _ => rfl
/-- is_key of an int -/
def spKey : Sp := fun vs H Q _ => ∃ i : Int, vs = [.int i] ∧ Q (.bl (decide (-1000000000 ≤ i ∧ i ≤ 1000000000))) H
theorem ok_key (T : Tx K mg A) : FnOk P w K mg base CX0 3 A.f_is_key A.d_is_key ["thing"] spKey := by
  refine T.F_is_key.ok sc_is_key (fun vs H Q E h => ?_) (fun cdv B outer s H vs Q E hr h => ?_)
  · obtain ⟨i, rfl, _⟩ := h
    rfl
  · obtain ⟨i, rfl, q⟩ := h
    obtain ⟨t, hg⟩ := cst T.c_GREATEST_KEY
    refine ⟨_, pss_one (ps_ret (pe_call (ok_ii T) hr (by rfl) T.m_is_integer_from T.F_is_integer_from.kp (b_ii T) .nil pass0
      (pa_cons (pv 0) (pa_cons (pe_un un_neg (pe_glob (by rfl) hg (relI _ _))) (pa_cons (pe_glob (by rfl) hg (relI _ _)) pa_nil))))), ?_⟩
    exact ⟨_, rfl, _, rfl, _, _, _, rfl, .inl ⟨i, rfl, q⟩⟩
theorem b_key (T : Tx K mg A) : L2.Binds K A.d_is_key ["thing"] [] := T.F_is_key.binds fun _ _ _ _ _ _ us hl => match us, hl with | [_], _ => rfl
theorem Sq.len {K : PySem.W.Frag} {H : Hp} {a : Addr} {xs : List V} (h : Sq H a xs) : SqL K H a xs ∨ SqT K H a xs := h.elim (fun e => .inl (SqL.of e)) fun e => .inr (SqT.of e)
/-- keys go in, a tuple of them comes out -/
def spRow (K : PySem.W.Frag) : Sp := fun vs H Q _ => ∃ (a : Addr) (ns : List Int), vs = [.ref a] ∧ Sq H a (ns.map V.int) ∧ ns.length ≤ 12 ∧ (∀ n ∈ ns, -1000000000 ≤ n ∧ n ≤ 1000000000) ∧
  ∀ H' p, Same H H' → H' p = some (.tup (ns.map V.int)) → Q (.ref p) H'
theorem ok_row (T : Tx K mg A) : FnOk P w K mg base CX0 4 A.f_row_of A.d_row_of ["row"] (spRow K) := by
  refine T.F_row_of.ok sc_row_of (fun vs H Q E h => ?_) (fun cdv B outer s H vs Q E hr h => ?_)
  · obtain ⟨a, ns, rfl, _⟩ := h
    rfl
  · obtain ⟨a, ns, rfl, ha, hl, hk, q⟩ := h
    obtain ⟨t, hg⟩ := cst T.c_MOST_PLACES
    refine ⟨_, pss_cons (ps_if (PW.pt (pw_or (pt_not (pt_val (pe_callB call_isiT (by rfl) T.g_isinstance (by decide +kernel) (pa_cons (pv 0) (pa_cons (pe_tup (pa_cons (pe_bltn (v := .ty "list") (by rfl) T.g_list (by decide +kernel) rfl) (pa_cons (pe_bltn (v := .ty "tuple") (by rfl) T.g_tuple (by decide +kernel) rfl) pa_nil))) pa_nil)))))
        (pw_or1 (pt_cmpR op_gt (pe_callB call_len_seq (by rfl) T.g_len PySem.boot_len (pa_cons (pv 0) pa_nil)) (pe_glob (by rfl) hg (relI _ _)) (nomark _))))) (pss_one ps_never) pss_nil)
      (C8.pss_cut (ps_for PassesOwn.never rfl (pi_enS (by rfl) T.g_enumerate (pa_cons (pv 0) pa_nil)) (pg_tup rfl (pgs_cons (pg_name (i := 1) sc_row_of.nd rfl (Or.inl rfl)) (pgs_cons (pg_name (i := 2) sc_row_of.nd rfl (Or.inl rfl)) pgs_nil)))
        (pss_one (ps_if (pt_not (pt_val (pe_call (ok_key T) hr (by rfl) T.m_is_key T.F_is_key.kp (b_key T) .nil pass0 (pa_cons (pv 2) pa_nil)))) (pss_one ps_never) pss_nil)))
      (pss_one (ps_ret (pe_callTy call_tuple_of (by rfl) T.g_tuple (by decide +kernel) (pa_cons (pv 0) pa_nil))))), ?_⟩
    refine ⟨_, rfl, by show 2 ≤ sizeLine; decide, fun tp htp => ?_⟩
    have ha1 : Sq (upd H tp (.tup [.ty "list", .ty "tuple"])) a (ns.map V.int) := ha.same (Same.up htp)
    have isi : ∃ c b1, TyX K (upd H tp (.tup [.ty "list", .ty "tuple"])) (.ref a) (.type c) ∧ PySem.W.kitOne K (.type c) (.type "list") = some b1 ∧ (b1 = false → PySem.W.kitOne K (.type c) (.type "tuple") = some true) := by
      rcases ha1 with h | h
      · exact ⟨"list", true, .base (.lst h), kit_ty (by decide +kernel), fun z => by cases z⟩
      · exact ⟨"tuple", false, .base (.tup h), kit_ty (by decide +kernel), fun _ => kit_ty (by decide +kernel)⟩
    obtain ⟨c, b1, ty, k1, k2⟩ := isi
    refine ⟨_, tp, _, .type c, [.type "list", .type "tuple"], true, rfl, upd_same, .cons (.ty _) (.cons (.ty _) .nil), ty, kitAny_cons k1 (fun z => kitAny_cons (k2 z) (fun z => by cases z) (fun _ => rfl)) (fun _ => rfl), true, rfl, ?_⟩
    refine iteF ⟨_, rfl, a, _, rfl, ha1.len, _, _, rfl, rfl, _, rfl, ite2 (fun z => ?_) (fun _ => ?_)⟩
    · exfalso
      rw [List.length_map] at z
      have := of_decide_eq_true z
      omega
    refine ⟨fun σ H' => ∃ z y, σ = [some (.ref a), z, y] ∧ Same H H', ?_, ?_⟩
    · rcases ha with ha | ha
      · refine ⟨_, rfl, a, _, rfl, .inl ⟨SqL.of ((Same.up htp) _ _ ha), for_it (walk_enum (xs := ns.map V.int)) (fun i σ H' => ∃ z y, σ = [some (.ref a), z, y] ∧ Same H H') ⟨none, none, rfl, Same.up htp⟩ (fun i σ H' _ ⟨_, _, _, s⟩ => SqL.of (s _ _ ha)) ?_ ?_⟩⟩
        · rintro i v σ H2 H3 hi ⟨z, y, rfl, s⟩ ⟨T', x, x2, rfl, hT, rfl, e1, e2⟩
          obtain ⟨hi', rfl⟩ := ints_at e2
          cases e1
          refine ⟨_, _, rfl, SqT.of upd_same, rfl, _, _, rfl, _, _, rfl, rfl, ?_⟩
          refine ⟨_, rfl, _, rfl, _, rfl, ?_⟩
          rw [decide_eq_true (hk _ (List.getElem_mem hi'))]
          exact iteF ⟨_, _, rfl, s.trans (Same.up hT)⟩
        · rintro σ H2 ⟨z, y, rfl, s⟩
          exact ⟨_, _, rfl, s⟩
      · refine ⟨_, rfl, a, _, rfl, .inr ⟨SqT.of ((Same.up htp) _ _ ha), for_it (walk_enumT (xs := ns.map V.int)) (fun i σ H' => ∃ z y, σ = [some (.ref a), z, y] ∧ Same H H') ⟨none, none, rfl, Same.up htp⟩ (fun i σ H' _ ⟨_, _, _, s⟩ => SqT.of (s _ _ ha)) ?_ ?_⟩⟩
        · rintro i v σ H2 H3 hi ⟨z, y, rfl, s⟩ ⟨T', x, x2, rfl, hT, rfl, e1, e2⟩
          obtain ⟨hi', rfl⟩ := ints_at e2
          cases e1
          refine ⟨_, _, rfl, SqT.of upd_same, rfl, _, _, rfl, _, _, rfl, rfl, ?_⟩
          refine ⟨_, rfl, _, rfl, _, rfl, ?_⟩
          rw [decide_eq_true (hk _ (List.getElem_mem hi'))]
          exact iteF ⟨_, _, rfl, s.trans (Same.up hT)⟩
        · rintro σ H2 ⟨z, y, rfl, s⟩
          exact ⟨_, _, rfl, s⟩
    · rintro σ H2 ⟨z, y, rfl, s⟩
      rcases ha with ha | ha
      · exact ⟨_, rfl, a, _, rfl, .inl ⟨SqL.of (s _ _ ha), fun p hp => q _ _ (s.trans (Same.up hp)) upd_same⟩⟩
      · exact ⟨_, rfl, a, _, rfl, .inr ⟨SqT.of (s _ _ ha), q _ _ s (s _ _ ha)⟩⟩
theorem b_row (T : Tx K mg A) : L2.Binds K A.d_row_of ["row"] [] := T.F_row_of.binds fun _ _ _ _ _ _ us hl => match us, hl with | [_], _ => rfl
def spCm : Sp := fun vs H Q _ => ∃ i : Int, vs = [.int i] ∧ (0 ≤ i ∧ i ≤ 12) ∧ Q .non H
theorem ok_cm (T : Tx K mg A) : FnOk P w K mg base CX0 3 A.f_check_many A.d_check_many ["many"] spCm := by
  refine T.F_check_many.ok sc_check_many (fun vs H Q E h => ?_) (fun cdv B outer s H vs Q E hr h => ?_)
  · obtain ⟨i, rfl, _⟩ := h
    rfl
  · obtain ⟨i, rfl, hi, q⟩ := h
    obtain ⟨t, hg⟩ := cst T.c_MOST_PLACES
    refine ⟨_, pss_one (ps_if (pt_not (pt_val (pe_call (ok_ii T) hr (by rfl) T.m_is_integer_from T.F_is_integer_from.kp (b_ii T) .nil pass0
      (pa_cons (pv 0) (pa_cons pe_int (pa_cons (pe_glob (by rfl) hg (relI _ _)) pa_nil)))))) (pss_one ps_never) pss_nil), ?_⟩
    refine ⟨_, rfl, _, _, _, rfl, .inl ⟨i, rfl, _, rfl, ?_⟩⟩
    rw [decide_eq_true hi]
    exact iteF q
theorem b_cm (T : Tx K mg A) : L2.Binds K A.d_check_many ["many"] [] := T.F_check_many.binds fun _ _ _ _ _ _ us hl => match us, hl with | [_], _ => rfl
theorem rg_pl (n : Nat) : rgV 0 (n : Int) = pl n := by
  unfold rgV pl
  rw [show ((n : Int) - 0).toNat = n by omega]
  exact congrArg (fun f => (List.range n).map f) (funext fun i => by rw [Int.zero_add])
theorem n1 : ¬ (("many" : Str) = "arms") := by decide +kernel
def spInit (C : Addr) : Sp := fun vs H Q _ => ∃ (p dx n w : Nat), vs = [.ref p, .int n, .int w] ∧ n ≤ 12 ∧ (1 ≤ w ∧ w ≤ 4) ∧ H p = some (.ins C dx []) ∧
  ∀ (H' : Hp), (∀ b o, H b = some o → b ≠ p → H' b = some o) → TreeAt C H' p n w → Q .non H'
theorem ok_init (T : Tx K mg A) : FnOk P w K mg base CX0 4 A.f_t___init__ A.d_t___init__ ["self", "many", "arms"] (spInit A.C) := by
  refine T.F_t___init__.ok sc_t___init__ (fun vs H Q E h => ?_) (fun cdv B outer s H vs Q E hr h => ?_)
  · obtain ⟨p, dx, n, w, rfl, _⟩ := h
    rfl
  · obtain ⟨p, dx, n, w, rfl, hn, hw, hp, q⟩ := h
    refine ⟨_, PSs.nox (pss_cons (ps_expr (pe_call (ok_ca T) hr (by rfl) T.m_check_arms T.F_check_arms.kp (b_ca T) .nil pass0 (pa_cons (pv 2) pa_nil)))
      (pss_cons (ps_expr (pe_call (ok_cm T) hr (by rfl) T.m_check_many T.F_check_many.kp (b_cm T) .nil pass0 (pa_cons (pv 1) pa_nil)))
      (pss_cons (ps_fld (pv 0) (pv 1) rfl) (pss_cons (ps_fld (pv 0) (pv 2) rfl)
      (pss_one (ps_fld (pv 0) (pe_tupRg rfl (by rfl) T.g_tuple (prg_1 (by rfl) T.g_range (pv 1))) rfl)))))), ?_⟩
    refine ⟨_, rfl, _, rfl, ⟨by omega, by omega⟩, _, rfl, _, rfl, ⟨by omega, by omega⟩, ?_⟩
    refine ⟨_, rfl, _, rfl, p, A.C, dx, _, rfl, hp, T.cT, T.nMany, (by show 0 < 1000; decide), ?_⟩
    refine ⟨_, rfl, _, rfl, p, A.C, dx, _, rfl, upd_same, T.cT, T.nArms, (by show 1 < 1000; decide), ?_⟩
    refine ⟨_, rfl, _, rfl, RgOk.of_le (by omega) (by omega) (by omega) (by omega), fun t ht => ?_⟩
    have npt : p ≠ t := fun z => by
      rw [z, upd_same] at ht
      cases ht
    refine ⟨_, rfl, p, A.C, dx, _, rfl, Eq.trans (upd_ne npt) upd_same, T.cT, T.nPl, (by simp only [putF, n1, if_false]; show 2 < 1000; decide), ?_⟩
    refine q _ (fun b o e hb => ?_) ⟨⟨dx, t, upd_same, ?_⟩, hn, hw⟩
    · have nbt : b ≠ t := ne_of_none (by rw [upd_ne hb, upd_ne hb]; exact e) ht
      rw [upd_ne hb, upd_ne nbt, upd_ne hb, upd_ne hb]
      exact e
    · rw [upd_ne npt.symm, upd_same, rg_pl]
def spOf (K : PySem.W.Frag) (C : Addr) : Sp := fun vs H Q _ => ∃ (a w : Nat) (ns : List Int), vs = [.ref C, .ref a, .int w] ∧ (1 ≤ w ∧ w ≤ 4) ∧ Sq H a (ns.map V.int) ∧ ns.length ≤ 12 ∧ (∀ n ∈ ns, -1000000000 ≤ n ∧ n ≤ 1000000000) ∧
  ∀ (H' : Hp) p, Same H H' → H p = none → TreeAt C H' p ns.length w → Q (.ref p) H'
theorem ok_of (T : Tx K mg A) : FnOk P w K mg base CX0 6 A.f_t_of A.d_t_of ["cls", "row", "arms"] (spOf K A.C) := by
  obtain ⟨mv, kb⟩ := kb_init T
  refine T.F_t_of.ok sc_t_of (fun vs H Q E h => ?_) (fun cdv B outer s H vs Q E hr h => ?_)
  · obtain ⟨a, w, ns, rfl, _⟩ := h
    rfl
  · obtain ⟨a, w, ns, rfl, hw, ha, hl, hk, q⟩ := h
    refine ⟨_, PSs.nox (pss_cons (ps_expr (pe_call (ok_ca T) (hr.mono (by decide)) (by rfl) T.m_check_arms T.F_check_arms.kp (b_ca T) .nil pass0 (pa_cons (pv 2) pa_nil)))
      (pss_one (ps_ret (pe_makeLK (i := 0) T.mkC (ok_init T) hr kb pass0 (pa_cons (pe_callB call_len_seq (by rfl) T.g_len PySem.boot_len (pa_cons (pe_call (ok_row T) (hr.mono (by decide)) (by rfl) T.m_row_of T.F_row_of.kp (b_row T) .nil pass0 (pa_cons (pv 1) pa_nil)) pa_nil)) pa_nil)
        (pk_cons (pv 2) pk_nil) rfl (Or.inl rfl))))), ?_⟩
    refine ⟨_, rfl, _, rfl, ⟨by omega, by omega⟩, rfl, _, rfl, a, ns, rfl, ha, hl, hk, fun H1 p s1 hp => ?_⟩
    refine ⟨p, _, rfl, .inr (SqT.of hp), _, rfl, rfl, rfl, fun x dx nx ndx nex => ?_⟩
    refine ⟨x, dx, ns.length, w, by rw [List.length_map]; rfl, hl, hw, upd_same, fun H2 k2 t2 => ⟨rfl, q H2 x (fun b o e => k2 b o ?_ (ne_of_none (s1 _ _ e) nx)) (s1.free nx) t2⟩⟩
    rw [upd_ne (ne_of_none (s1 _ _ e) nx), upd_ne (ne_of_none (s1 _ _ e) ndx)]
    exact s1 _ _ e
theorem b_iter (T : Tx K mg A) : L2.Binds K A.d_t___iter__ ["self"] [] := T.F_t___iter__.binds fun _ _ _ _ _ _ us hl => match us, hl with | [_], _ => rfl
theorem pl_len (n : Nat) : (pl n).length = n := by unfold pl; rw [List.length_map, List.length_range]
theorem ok_iter (T : Tx K mg A) : FnIt P w K mg base 2 A.f_t___iter__ A.d_t___iter__ ["self"] (spIter K A.C "_places") := by
  refine fnIt_of T.F_t___iter__ sc_t___iter__ (fun cdv B outer s H vs Q hr h => ?_)
  obtain ⟨a, dx, fs, t, zs, rfl, ha, hf, ht, q⟩ := h
  refine ⟨_, pss_one (ps_ret (pe_callB call_iterT (by rfl) T.g_iter (by decide +kernel) (pa_cons (pe_fld (pv 0) rfl) pa_nil))), ?_⟩
  exact ⟨_, rfl, a, A.C, dx, _, _, rfl, ha, T.cT, T.nPl, hf, t, zs, rfl, ht, q⟩
/-- the parent as the program says it -/
def parV (w p : Nat) : V := if p = 0 then .non else .int ((p - 1) / w : Nat)
theorem b_cp (T : Tx K mg A) : L2.Binds K A.d_check_place ["place", "many"] [] := T.F_check_place.binds fun _ _ _ _ _ _ us hl => match us, hl with | [_, _], _ => rfl
def spCp : Sp := fun vs H Q _ => ∃ i n : Int, vs = [.int i, .int n] ∧ (0 ≤ i ∧ i < n) ∧ Q .non H
theorem ok_cp (T : Tx K mg A) : FnOk P w K mg base CX0 3 A.f_check_place A.d_check_place ["place", "many"] spCp := by
  refine T.F_check_place.ok sc_check_place (fun vs H Q E h => ?_) (fun cdv B outer s H vs Q E hr h => ?_)
  · obtain ⟨i, n, rfl, _⟩ := h
    rfl
  · obtain ⟨i, n, rfl, hi, q⟩ := h
    refine ⟨_, pss_one (ps_if (pt_not (pt_val (pe_call (ok_ii T) hr (by rfl) T.m_is_integer_from T.F_is_integer_from.kp (b_ii T) .nil pass0
      (pa_cons (pv 0) (pa_cons pe_int (pa_cons (pe_op op_sub (pv 1) pe_int) pa_nil)))))) (pss_one ps_never) pss_nil), ?_⟩
    refine ⟨_, rfl, _, rfl, _, _, rfl, rfl, _, _, _, rfl, .inl ⟨i, rfl, _, rfl, ?_⟩⟩
    rw [decide_eq_true (show 0 ≤ i ∧ i ≤ n - 1 by omega)]
    exact iteF q
theorem n2 : ¬ (("many" : Str) = "_places") := by decide +kernel
theorem tf_many (n w t : Nat) : (tf n w t).lookup ("many" : Str) = some (.int n) := by
  unfold tf
  rw [lookup_putF, if_neg n2, lookup_putF, if_neg n1, lookup_putF, if_pos rfl]
theorem n3 : ¬ (("arms" : Str) = "_places") := by decide +kernel
theorem tf_arms (n w t : Nat) : (tf n w t).lookup ("arms" : Str) = some (.int w) := by
  unfold tf
  rw [lookup_putF, if_neg n3, lookup_putF, if_pos rfl]
def spPar (C : Addr) : Sp := fun vs H Q _ => ∃ (p n w i : Nat), vs = [.ref p, .int i] ∧ TreeAt C H p n w ∧ i < n ∧ Q (parV w i) H
theorem ok_par (T : Tx K mg A) : FnOk P w K mg base CX0 4 A.f_t_parent A.d_t_parent ["self", "place"] (spPar A.C) := by
  refine T.F_t_parent.ok sc_t_parent (fun vs H Q E h => ?_) (fun cdv B outer s H vs Q E hr h => ?_)
  · obtain ⟨p, n, w, i, rfl, _⟩ := h
    rfl
  · obtain ⟨p, n, w, i, rfl, t, hi, q⟩ := h
    obtain ⟨dx, l, h1, h2⟩ := t.ob
    refine ⟨_, pss_cons (ps_expr (pe_call (ok_cp T) hr (by rfl) T.m_check_place T.F_check_place.kp (b_cp T) .nil pass0 (pa_cons (pv 1) (pa_cons (pe_fld (pv 0) rfl) pa_nil))))
      (pss_cons (ps_if (pt_cmpR op_eq (pv 1) pe_int (nomark _)) (pss_one (ps_ret pe_non)) pss_nil)
      (pss_one (ps_ret (pe_op op_fdivN (pe_op op_sub (pv 1) pe_int) (pe_fld (pv 0) rfl))))), ?_⟩
    refine ⟨_, rfl, _, rfl, p, A.C, dx, _, _, rfl, h1, T.cT, T.nMany, tf_many _ _ _, _, _, rfl, ⟨by omega, by omega⟩, ?_⟩
    refine ⟨_, rfl, rfl, _, rfl, ?_⟩
    by_cases h0 : i = 0
    · rw [decide_eq_true (show V.int (i : Nat) = V.int 0 by rw [h0]; rfl)]
      refine iteT ?_
      unfold parV at q
      rw [if_pos h0] at q
      exact q
    · rw [decide_eq_false (show ¬ V.int (i : Nat) = V.int 0 by intro z; injection z with z; omega)]
      refine iteF ?_
      refine ⟨_, rfl, _, _, rfl, rfl, _, rfl, p, A.C, dx, _, _, rfl, h1, T.cT, T.nArms, tf_arms _ _ _, _, _, rfl, rfl, ⟨by have := t.hw; omega, by have := t.hw; omega⟩, ?_⟩
      unfold parV at q
      rw [if_neg h0] at q
      have e : Int.fdiv ((i : Int) - 1) (w : Int) = ((i - 1) / w : Nat) := by
        rw [Int.fdiv_eq_ediv_of_nonneg _ (by omega), show ((i : Int) - 1) = ((i - 1 : Nat) : Int) by omega]
        rfl
      show Q (V.int (Int.fdiv ((i : Int) - 1) (w : Int))) H
      rw [e]
      exact q
theorem ix_sq {H : Hp} {a : Addr} {ns : List Int} {i : Nat} {Q : VK} (h : Sq H a (ns.map V.int)) (hi : i < ns.length) (q : Q (.int (ns.getD i 0)) H) : rIx K (.ref a) (.int i) H Q := by
  have e : (ns.map V.int)[i]? = some (V.int (ns.getD i 0)) := by
    rw [List.getElem?_map, List.getElem?_eq_getElem hi, List.getD_eq_getElem?_getD, List.getElem?_eq_getElem hi]
    rfl
  rcases h with h | h
  · exact .inl ⟨a, _, _, _, rfl, rfl, SqL.of h, atI_nat e, q⟩
  · exact .inr (.inl ⟨a, _, _, _, rfl, rfl, SqT.of h, atI_nat e, q⟩)
theorem filt_pick (l : List Nat) (b : Nat → Bool) : vi (l.filter b) = l.filterMap fun j => if b j = true then some (V.int (j : Nat)) else none := by
  unfold vi
  induction l with
  | nil => rfl
  | cons a l ih =>
    by_cases h : b a = true
    · rw [List.filter_cons_of_pos h, List.map_cons, ih, List.filterMap_cons, if_pos h]
    · rw [List.filter_cons_of_neg h, ih, List.filterMap_cons, if_neg h]
def spFau : Sp := fun vs H Q _ => ∃ (a w : Nat) (ns : List Int), vs = [.ref a, .int w] ∧ (1 ≤ w ∧ w ≤ 4) ∧ RowIn H a ns ∧ ∀ H' q, Same H H' → H q = none → H' q = some (.lst (vi (faultL ns w))) → Q (.ref q) H'
theorem ok_fau (T : Tx K mg A) : FnOk P w K mg base CX0 7 A.f_faults A.d_faults ["row", "arms"] spFau := by
  obtain ⟨mo, ko⟩ := kb_of T
  refine T.F_faults.ok sc_faults (fun vs H Q E h => ?_) (fun cdv B outer s H vs Q E hr h => ?_)
  · obtain ⟨a, w, ns, rfl, _⟩ := h
    rfl
  · obtain ⟨a, w, ns, rfl, hw, hrow, q⟩ := h
    have nd := sc_faults.nd
    refine ⟨_, PSs.nox (pss_cons (ps_set (i := 2) nd rfl (Or.inr rfl) (pe_cmethK (pe_glob (v := .ref A.C) (by rfl) T.mC (relR _)) T.cr T.cof (ok_of T) hr ko pass0 (pa_cons (pv 0) pa_nil) (pk_cons (pv 1) pk_nil)))
      (pss_one (ps_ret (pe_lc (own := [("place", 3)]) (g := gName 3) rfl nd (pi_own T.D_t___iter__ (ok_iter T) (hr.mono (by decide)) (b_iter T) (pv 2)) (blkOk_by (own := [("place", 3)]) (N := ["row", "arms", "tree", "place"]) (sc := defScope s_faults) (by decide +kernel))
        (fun _ _ _ _ _ => pg_name (i := 3) nd rfl (Or.inl rfl))
        (fun _ _ _ _ _ => pts_one (PW.pt (pw_and (pt_cmpR op_gt (pv 3) pe_int (nomark _)) (pw_and1 (pt_cmpR op_lt (pe_ix (r := rIx K) ix_seq (pv 0) (pv 3) (fun _ _ => rfl))
          (pe_ix (r := rIx K) ix_seq (pv 0) (pe_meth (pv 2) T.cT T.M_t_parent (ok_par T) (hr.mono (by decide)) (b_par T) .nil pass0 (pa_cons (pv 3) pa_nil)) (fun _ _ => rfl)) (nomark _))))))
        (fun _ _ _ _ _ => pv 3))))), ?_⟩
    refine ⟨rfl, _, rfl, _, rfl, rfl, rfl, a, w, ns, rfl, hw, hrow.1, hrow.2.1, hrow.2.2, fun H1 p s1 p0 t1 => ?_⟩
    obtain ⟨dx, l, h1, h2⟩ := t1.ob
    have noP : (tf ns.length w l).lookup ("parent" : Str) = none := tf_no _ _ _ (by decide +kernel) (by decide +kernel) (by decide +kernel)
    have hlen := hrow.2.1
    refine ⟨_, rfl, p, dx, _, l, _, rfl, h1, tf_pl _ _ _, SqT.of h2, fun D hD => ?_⟩
    refine lc_it (walk_tup (xs := pl ns.length)) (PickI H1 D (List.range ns.length) fun j => if faultB ns w j = true then some (V.int (j : Nat)) else none) (pick_start hD) (fun k H' _ h => SqT.of (h.s _ _ h2)) ?_ ?_
    · rintro k x H2 H3 hk pk ⟨rfl, ex⟩
      obtain ⟨hk', rfl⟩ := map_at ex
      rw [List.getElem_range]
      have hk2 : k < ns.length := by rw [List.length_range] at hk'; exact hk'
      have hrow3 := (hrow.1.same s1).same pk.s
      refine ⟨rfl, _, rfl, _, _, rfl, rfl, _, rfl, ?_⟩
      by_cases h0 : 0 < k
      · rw [decide_eq_true (show (0 : Int) < (k : Nat) by omega)]
        have ep : parV w k = V.int ((k - 1) / w : Nat) := by unfold parV; rw [if_neg (by omega)]
        have hlt : (k - 1) / w < k := Nat.lt_of_le_of_lt (Nat.div_le_self _ _) (by omega)
        refine iteT ⟨_, rfl, _, rfl, ix_sq hrow3 hk2 ⟨_, rfl, _, rfl, p, dx, _, rfl, pk.s _ _ h1, noP, _, rfl, p, ns.length, w, k, rfl, t1.same pk.s, hk2, ?_⟩⟩
        rw [ep]
        refine ix_sq hrow3 (by omega) ⟨_, _, rfl, rfl, _, rfl, ?_⟩
        have ef : faultB ns w k = decide (ns.getD k 0 < ns.getD ((k - 1) / w) 0) := by unfold faultB; rw [decide_eq_true h0, Bool.true_and]
        by_cases hf : ns.getD k 0 < ns.getD ((k - 1) / w) 0
        · rw [decide_eq_true hf] at ef ⊢
          exact iteT ⟨_, rfl, pick_yes hk' (by rw [List.length_range]; omega) (by rw [List.getElem_range, ef]; rfl) (Same.refl _) pk⟩
        · rw [decide_eq_false hf] at ef ⊢
          exact iteF (pick_no hk' (by rw [List.getElem_range, ef]; rfl) (Same.refl _) pk)
      · rw [decide_eq_false (show ¬ (0 : Int) < (k : Nat) by omega)]
        have ef : faultB ns w k = false := by unfold faultB; rw [decide_eq_false h0, Bool.false_and]
        exact iteF (iteF (pick_no hk' (by rw [List.getElem_range, ef]; rfl) (Same.refl _) pk))
    · intro H2 pk
      have ac := pick_end (by rw [pl_len, List.length_range]) pk
      refine q _ D (s1.trans ac.s) (s1.free hD) ?_
      rw [ac.a]
      unfold faultL
      rw [filt_pick]
end
end Tw

set_option Elab.async false
set_option linter.all false
set_option maxRecDepth 100000
set_option maxHeartbeats 2000000
namespace Tw
open PySem PySem.Spec PyProof.Rows L2
section
variable {P : Program} {w : World} {K : PySem.W.Frag} {mg : Str → Option Value} {base : Heap} {A : Ad}
open LamX (ExtN Tabs TabS)
theorem kb_fau (T : Tx K mg A) : ∃ mv : List Value, KBn K A.d_faults ["row", "arms"] 1 ["arms"] (fun us ws => us ++ (mv ++ ws)) (fun vs zs => vs ++ zs) := by
  obtain ⟨mv, h⟩ := T.F_faults.kbinds0 (ps := ["row", "arms"]) 1 ["arms"] [] (fun us mv ws => us ++ (mv ++ ws)) (by simp) (by simp) (fun r1 r2 r3 => r1.append (r2.append r3))
    (fun D doc pm an cdv ct us mv ws h1 h2 h3 => by
      match us, mv, ws, h1, h2, h3 with
      | [a], [], [c], _, _, _ => rfl)
  exact ⟨mv, h⟩
def rTupOf (K : PySem.W.Frag) : List V → Hp → VK → Prop := fun xs H Q => ∃ p ys, xs = [V.ref p] ∧ ((SqL K H p ys ∧ ∀ l, H l = none → Q (.ref l) (upd H l (.tup ys))) ∨ SqT K H p ys ∧ Q (.ref p) H)
theorem call_tupK {X : Cx} : CallR X (.type "tuple") (rTupOf X.K) := call_tuple_of
def spHp : Sp := fun vs H Q _ => ∃ (r w : Nat) (ks : List Int), vs = [.ref r, .int w] ∧ (1 ≤ w ∧ w ≤ 4) ∧ RowIn H r ks ∧ faultL ks w = [] ∧ ∀ H' q, Same H H' → H' q = some (.tup (ks.map V.int)) → Q (.ref q) H'
theorem ok_hp (T : Tx K mg A) : FnOk P w K mg base CX0 8 A.f_heap_of A.d_heap_of ["row", "arms"] spHp := by
  obtain ⟨mf, kf⟩ := kb_fau T
  refine T.F_heap_of.ok sc_heap_of (fun vs H Q E h => ?_) (fun cdv B outer s H vs Q E hr h => ?_)
  · obtain ⟨r, w, ks, rfl, _⟩ := h
    rfl
  · obtain ⟨r, w, ks, rfl, hw, hrow, hf, q⟩ := h
    have nd := sc_heap_of.nd
    refine ⟨_, PSs.nox (pss_cons (ps_set (i := 2) nd rfl (Or.inl rfl) (pe_callN (ok_fau T) (hr.mono (by decide)) (by rfl) T.m_faults T.F_faults.kp kf pass0 (pa_cons (pv 0) pa_nil) (pk_cons (pv 1) pk_nil)))
      (pss_cons (ps_if (pt_truth (pv 2) (fun _ => rfl)) (pss_one ps_never) pss_nil)
      (pss_one (ps_ret (pe_callTy (r := rTupOf K) call_tupK (by rfl) T.g_tuple (by decide +kernel) (pa_cons (pv 0) pa_nil)))))), ?_⟩
    refine ⟨_, rfl, _, rfl, rfl, rfl, r, w, ks, rfl, hw, hrow, fun H1 d s1 d0 hd => ?_⟩
    refine ⟨_, rfl, !(vi (faultL ks w)).isEmpty, .inl ⟨_, SqL.of hd, rfl⟩, ?_⟩
    rw [hf]
    refine iteF ?_
    rcases hrow.1.same s1 with h | h
    · exact ⟨_, rfl, r, _, rfl, .inl ⟨SqL.of h, fun t nt => q _ t (s1.trans (Same.up nt)) upd_same⟩⟩
    · exact ⟨_, rfl, r, _, rfl, .inr ⟨SqT.of h, q _ r s1 h⟩⟩
theorem b_hp (T : Tx K mg A) : L2.Binds K A.d_heap_of ["row", "arms"] [] := T.F_heap_of.binds fun _ _ _ _ _ _ us hl => match us, hl with | [_, _], _ => rfl
theorem sq_cut {H : Hp} {r : Addr} {ks : List Int} {lo hi : Option Int} {zs : List Int} {Q : VK} (K : PySem.W.Frag) (h : Sq H r (ks.map V.int)) (c : cutV (ks.map V.int) lo hi = zs.map V.int ∧ ¬ (HT.sIx (ks.map V.int).length 0 lo = 0 ∧ HT.sIx (ks.map V.int).length (ks.map V.int).length hi = (ks.map V.int).length))
    (q : ∀ p G, Same H G → Sq G p (zs.map V.int) → Q (.ref p) G) : rSlL K (.ref r) lo hi H Q ∨ rSlT K (.ref r) lo hi H Q := by
  rcases h with h | h
  · exact .inl ⟨r, _, rfl, SqL.of h, fun p np => by rw [c.1]; exact q p _ (Same.up np) (.inl upd_same)⟩
  · exact .inr ⟨r, _, rfl, SqT.of h, c.2, fun p np => by rw [c.1]; exact q p _ (Same.up np) (.inr upd_same)⟩
theorem inV_int (i : Int) : ∀ ns : List Int, inV (V.int i) (ns.map V.int) = decide (i ∈ ns)
  | [] => by simp [inV]
  | a :: ns => by
    have ih := inV_int i ns
    unfold inV at ih ⊢
    show (eqV (V.int a) (V.int i) || (ns.map V.int).any fun y => eqV y (V.int i)) = _
    rw [ih]
    by_cases h : i = a
    · subst h
      rw [show eqV (V.int i) (V.int i) = true from decide_eq_true rfl, Bool.true_or, decide_eq_true List.mem_cons_self]
    · rw [show eqV (V.int a) (V.int i) = false from decide_eq_false (fun z => h (by have : a = i := z; exact this.symm)), Bool.false_or]
      exact decide_eq_decide.mpr ⟨fun z => List.mem_cons_of_mem _ z, fun z => (List.mem_cons.mp z).resolve_left h⟩
theorem int_flat : ∀ ks : List Int, (ks.map V.int).all flatV = true
  | [] => rfl
  | k :: ks => by
    rw [List.map_cons, List.all_cons, int_flat ks]
    rfl
theorem cut_pre (ks : List Int) {i : Nat} (h : i < ks.length) : cutV (ks.map V.int) none (some (i : Int)) = (ks.take i).map V.int ∧ ¬ (HT.sIx (ks.map V.int).length 0 none = 0 ∧ HT.sIx (ks.map V.int).length (ks.map V.int).length (some (i : Int)) = (ks.map V.int).length) := by
  refine ⟨?_, fun z => ?_⟩
  · unfold cutV
    rw [HT.sIx_none, HT.sIx_nat, List.length_map, Nat.min_eq_left (by omega), List.drop_zero, Nat.sub_zero, List.map_take]
  · have z2 := z.2
    rw [HT.sIx_nat, List.length_map] at z2
    omega
def spCd : Sp := fun vs H Q _ => ∃ (a : Addr) (ks : List Int), vs = [.ref a] ∧ Sq H a (ks.map V.int) ∧ ks.Nodup ∧ ∀ H' : Hp, Same H H' → Q .non H'
theorem not_pre {ks : List Int} (hd : ks.Nodup) {i : Nat} (h : i < ks.length) : decide (ks[i] ∈ ks.take i) = false := decide_eq_false fun z => by
  obtain ⟨j, hj, e⟩ := List.mem_take_iff_getElem.mp z
  have := List.pairwise_iff_getElem.mp (List.nodup_iff_pairwise_ne.mp hd) j i (by omega) h (by omega)
  exact this e
theorem ok_cd (T : Tx K mg A) : FnOk P w K mg base CX0 1 A.f_check_different A.d_check_different ["keys"] spCd := by
  refine T.F_check_different.ok sc_check_different (fun vs H Q E h => ?_) (fun cdv B outer s H vs Q E hr h => ?_)
  · obtain ⟨a, ks, rfl, _⟩ := h
    rfl
  · obtain ⟨a, ks, rfl, ha, hd, q⟩ := h
    have nd := sc_check_different.nd
    refine ⟨_, (pss_one (ps_for PassesOwn.never rfl (pi_enS (by rfl) T.g_enumerate (pa_cons (pv 0) pa_nil)) (pg_tup rfl (pgs_cons (pg_name (i := 1) nd rfl (Or.inl rfl)) (pgs_cons (pg_name (i := 2) nd rfl (Or.inl rfl)) pgs_nil))) (pss_one (ps_if (pt_cmpR (r := L2.rIn K false) op_in_seq (pv 2) (pe_slice (sl_list.or sl_tup) (pv 0) po_none (po_some (pv 1))) (by rfl)) (pss_one ps_never) pss_nil)))), ?_⟩
    rcases ha with ha | ha
    · refine ⟨_, rfl, a, _, rfl, .inl ⟨SqL.of ha, for_it (walk_enum (xs := ks.map V.int)) (fun i σ' H' => (∃ x1 x2 : Option V, σ' = [some (.ref a), x1, x2]) ∧ Same H H') ⟨⟨none, none, rfl⟩, Same.refl _⟩ (fun i σ' H' _ h => SqL.of (h.2 _ _ ha)) ?_ ?_⟩⟩
      · rintro i v σ' H2 H3 hi ⟨⟨x1, x2, rfl⟩, s⟩ ⟨T', x, y, rfl, hT, rfl, e1, e2⟩
        obtain ⟨hi2, rfl⟩ := ints_at e2
        cases e1
        refine ⟨_, _, rfl, SqT.of upd_same, rfl, _, _, rfl, _, _, rfl, rfl, ?_⟩
        have s3 := s.trans (Same.up (o := .tup [V.int (i : Nat), V.int ks[i]]) hT)
        generalize upd H2 T' (.tup [V.int (i : Nat), V.int ks[i]]) = G at s3
        refine ⟨_, rfl, _, rfl, _, rfl, _, rfl, sq_cut K (.inl (s3 _ _ ha)) (cut_pre ks hi2) fun p G2 s4 hp => ⟨p, _, rfl, hp.len, rfl, int_flat _, ?_⟩⟩
        rw [if_neg Bool.false_ne_true, inV_int, not_pre hd hi2]
        exact ⟨_, rfl, iteF ⟨⟨_, _, rfl⟩, s3.trans s4⟩⟩
      · rintro σ' H2 ⟨⟨x1, x2, rfl⟩, s⟩
        exact q _ s
    · refine ⟨_, rfl, a, _, rfl, .inr ⟨SqT.of ha, for_it (walk_enumT (xs := ks.map V.int)) (fun i σ' H' => (∃ x1 x2 : Option V, σ' = [some (.ref a), x1, x2]) ∧ Same H H') ⟨⟨none, none, rfl⟩, Same.refl _⟩ (fun i σ' H' _ h => SqT.of (h.2 _ _ ha)) ?_ ?_⟩⟩
      · rintro i v σ' H2 H3 hi ⟨⟨x1, x2, rfl⟩, s⟩ ⟨T', x, y, rfl, hT, rfl, e1, e2⟩
        obtain ⟨hi2, rfl⟩ := ints_at e2
        cases e1
        refine ⟨_, _, rfl, SqT.of upd_same, rfl, _, _, rfl, _, _, rfl, rfl, ?_⟩
        have s3 := s.trans (Same.up (o := .tup [V.int (i : Nat), V.int ks[i]]) hT)
        generalize upd H2 T' (.tup [V.int (i : Nat), V.int ks[i]]) = G at s3
        refine ⟨_, rfl, _, rfl, _, rfl, _, rfl, sq_cut K (.inr (s3 _ _ ha)) (cut_pre ks hi2) fun p G2 s4 hp => ⟨p, _, rfl, hp.len, rfl, int_flat _, ?_⟩⟩
        rw [if_neg Bool.false_ne_true, inV_int, not_pre hd hi2]
        exact ⟨_, rfl, iteF ⟨⟨_, _, rfl⟩, s3.trans s4⟩⟩
      · rintro σ' H2 ⟨⟨x1, x2, rfl⟩, s⟩
        exact q _ s
theorem b_cd (T : Tx K mg A) : L2.Binds K A.d_check_different ["keys"] [] := T.F_check_different.binds fun _ _ _ _ _ _ us hl => match us, hl with | [_], _ => rfl
def spDh : Sp := fun vs H Q _ => ∃ (r w : Nat) (ks : List Int), vs = [.ref r, .int w] ∧ (1 ≤ w ∧ w ≤ 4) ∧ RowIn H r ks ∧ faultL ks w = [] ∧ ks.Nodup ∧ ∀ H' q, Same H H' → H' q = some (.tup (ks.map V.int)) → Q (.ref q) H'
theorem ok_dh (T : Tx K mg A) : FnOk P w K mg base CX0 9 A.f_different_heap_of A.d_different_heap_of ["row", "arms"] spDh := by
  refine T.F_different_heap_of.ok sc_different_heap_of (fun vs H Q E h => ?_) (fun cdv B outer s H vs Q E hr h => ?_)
  · obtain ⟨r, w, ks, rfl, _⟩ := h
    rfl
  · obtain ⟨r, w, ks, rfl, hw, hrow, hf, hd, q⟩ := h
    have nd := sc_different_heap_of.nd
    refine ⟨_, (pss_cons (ps_set (i := 2) nd rfl (Or.inl rfl) (pe_call (ok_hp T) (hr.mono (by decide)) (by rfl) T.m_heap_of T.F_heap_of.kp (b_hp T) .nil pass0 (pa_cons (pv 0) (pa_cons (pv 1) pa_nil))))
      (pss_cons (ps_expr (pe_call (ok_cd T) (hr.mono (by decide)) (by rfl) T.m_check_different T.F_check_different.kp (b_cd T) .nil pass0 (pa_cons (pv 2) pa_nil)))
      (pss_one (ps_ret (pv 2))))), ?_⟩
    refine ⟨_, rfl, _, rfl, r, w, ks, rfl, hw, hrow, hf, fun H1 t s1 e1 => ?_⟩
    exact ⟨_, rfl, t, ks, rfl, .inr e1, hd, fun H2 s2 => ⟨_, rfl, q H2 t (s1.trans s2) (s2 _ _ e1)⟩⟩
def spHwr : Sp := fun vs H Q _ => ∃ (r w : Nat) (ks : List Int), vs = [.ref r, .int w] ∧ (1 ≤ w ∧ w ≤ 4) ∧ RowIn H r ks ∧ faultL ks w = [] ∧ ks.Nodup ∧ ks.length < 12 ∧ ∀ H' q, Same H H' → H' q = some (.tup (ks.map V.int)) → Q (.ref q) H'
theorem ok_hwr (T : Tx K mg A) : FnOk P w K mg base CX0 10 A.f_heap_with_room A.d_heap_with_room ["row", "arms"] spHwr := by
  refine T.F_heap_with_room.ok sc_heap_with_room (fun vs H Q E h => ?_) (fun cdv B outer s H vs Q E hr h => ?_)
  · obtain ⟨r, w, ks, rfl, _⟩ := h
    rfl
  · obtain ⟨r, w, ks, rfl, hw, hrow, hf, hd, hl, q⟩ := h
    have nd := sc_heap_with_room.nd
    obtain ⟨t, hg⟩ := cst T.c_MOST_PLACES
    refine ⟨_, (pss_cons (ps_set (i := 2) nd rfl (Or.inl rfl) (pe_call (ok_dh T) (hr.mono (by decide)) (by rfl) T.m_different_heap_of T.F_different_heap_of.kp (b_dh T) .nil pass0 (pa_cons (pv 0) (pa_cons (pv 1) pa_nil))))
      (pss_cons (ps_if (pt_cmpR op_eq (pe_callB call_len_seq (by rfl) T.g_len PySem.boot_len (pa_cons (pv 2) pa_nil)) (pe_glob (by rfl) hg (relI _ _)) (nomark _)) (pss_one ps_never) pss_nil)
      (pss_one (ps_ret (pv 2))))), ?_⟩
    refine ⟨_, rfl, _, rfl, r, w, ks, rfl, hw, hrow, hf, hd, fun H1 h s1 e1 => ?_⟩
    refine ⟨_, rfl, h, _, rfl, .inr (SqT.of e1), rfl, _, rfl, ?_⟩
    rw [List.length_map, decide_eq_false (show ¬ V.int (ks.length : Nat) = V.int 12 from fun z => by injection z with z; omega)]
    exact iteF ⟨_, rfl, q _ h s1 e1⟩
theorem SqT.sm {K : PySem.W.Frag} {H H' : Hp} {a : Addr} {xs : List V} (s : Same H H') (h : SqT K H a xs) : SqT K H' a xs := by
  rcases h with (h | ⟨o, h⟩) | h
  · exact .inl (.inl (s _ _ h))
  · exact .inl (.inr ⟨o, s _ _ h⟩)
  · exact .inr h
/-- what stood before an instance was made stands behind its making -/
theorem new_same {C x dx : Addr} {H H' : Hp} (nx : H x = none) (ndx : H dx = none) (k : ∀ b o, (upd (upd H dx (.own x)) x (.ins C dx [])) b = some o → b ≠ x → H' b = some o) : Same H H' := fun b o e => by
  refine k b o ?_ (ne_of_none e nx)
  rw [upd_ne (ne_of_none e nx), upd_ne (ne_of_none e ndx)]
  exact e
def spPon (K : PySem.W.Frag) : Sp := fun vs H Q _ => ∃ (t w : Nat) (xs : List V), vs = [.ref t, .int w] ∧ (1 ≤ w ∧ w ≤ 4) ∧ SqT K H t xs ∧ 1 ≤ xs.length ∧ xs.length < 12 ∧ ∀ H', Same H H' → Q (.int ((xs.length - 1) / w : Nat)) H'
theorem ok_pon (T : Tx K mg A) : FnOk P w K mg base CX0 7 A.f_place_over_next A.d_place_over_next ["heap", "arms"] (spPon K) := by
  obtain ⟨mi, ki⟩ := kb_init T
  refine T.F_place_over_next.ok sc_place_over_next (fun vs H Q E h => ?_) (fun cdv B outer s H vs Q E hr h => ?_)
  · obtain ⟨t, w, xs, rfl, _⟩ := h
    rfl
  · obtain ⟨t, w, xs, rfl, hw, ht, h1, h12, q⟩ := h
    refine ⟨_, (pss_one (ps_ret (pe_meth (pe_makeK T.mkC (ok_init T) (hr.mono (by decide)) (by rfl) T.mC ki pass0 (pa_cons (pe_op op_add (pe_callB call_len_seq (by rfl) T.g_len PySem.boot_len (pa_cons (pv 0) pa_nil)) pe_int) pa_nil) (pk_cons (pv 1) pk_nil)) T.cT T.M_t_parent (ok_par T) (hr.mono (by decide)) (b_par T) .nil pass0 (pa_cons (pe_callB call_len_seq (by rfl) T.g_len PySem.boot_len (pa_cons (pv 0) pa_nil)) pa_nil)))), ?_⟩
    refine ⟨_, rfl, t, _, rfl, .inr ht, _, _, rfl, rfl, _, rfl, rfl, rfl, fun x dx nx ndx nex => ?_⟩
    refine ⟨x, dx, xs.length + 1, w, rfl, by omega, hw, upd_same, fun H2 k2 t2 => ⟨rfl, ?_⟩⟩
    have s1 := new_same nx ndx k2
    obtain ⟨dx2, l, g1, g2⟩ := id t2.ob
    have noP : (tf (xs.length + 1) w l).lookup ("parent" : Str) = none := tf_no _ _ _ (by decide +kernel) (by decide +kernel) (by decide +kernel)
    refine ⟨x, dx2, _, rfl, g1, noP, _, rfl, t, _, rfl, .inr (SqT.sm s1 ht), x, xs.length + 1, w, xs.length, rfl, t2, by omega, ?_⟩
    rw [show parV w xs.length = V.int (((xs.length - 1) / w : Nat) : Int) by unfold parV; rw [if_neg (by omega)]]
    exact q H2 s1
def ovP (w : Nat) (ks : List Int) (place : Nat) (one key : Int) : Prop := one = (overP ks.length w : Nat) ∧ key = keyAt ks (overP ks.length w) ∧ keyAt ks (overP ks.length w) > keyAt ks place
/-- truth, as a comprehension's test -/
def tTru (K : PySem.W.Frag) (ta : TE) : L2.TT := fun σ H Q => ta σ H fun x H' => ∃ k, TruV K x H' k ∧ Q k H'
theorem pt_tru {X : Cx} {a : Expr} {ta : TE} (h : PE X a ta) (hw : ∀ (whole : Sem Value), PySem.isTrue a X.env whole = do
          let v ← whole
          standAt a.pos
          holding [v] (truthy v)) : PT X a (tTru X.K ta) := pt_truth h hw
theorem pt_truK {X : Cx} {K : PySem.W.Frag} {a : Expr} {ta : TE} (hK : X.K = K) (h : PE X a ta) (hw : ∀ (whole : Sem Value), PySem.isTrue a X.env whole = do
          let v ← whole
          standAt a.pos
          holding [v] (truthy v)) : PT X a (tTru K ta) := hK ▸ pt_tru h hw
theorem vi_app (a b : List Nat) : vi (a ++ b) = vi a ++ vi b := by unfold vi; rw [List.map_append]
theorem vi_len (l : List Nat) : (vi l).length = l.length := by unfold vi; rw [List.length_map]
end
end Tw

set_option Elab.async false
set_option linter.all false
set_option maxRecDepth 100000
set_option maxHeartbeats 2000000
namespace Tw
open PySem PySem.Spec PyProof.Rows L2
section
variable {P : Program} {w : World} {K : PySem.W.Frag} {mg : Str → Option Value} {base : Heap} {A : Ad}
open LamX (ExtN Tabs TabS)
/-! places behind, of an empty row too: ovP HpD behB behL overP ok_hwr spHwr ok_pon spPon walk_enumT key_at el_key vi_app small1000 kpb Acc -/
def spPbe : Sp := fun vs H Q _ => ∃ (r w : Nat) (ks : List Int), vs = [.ref r, .int w] ∧ ((HpD H r w ks ∧ ks.length < 12) ∨ (ks = [] ∧ (1 ≤ w ∧ w ≤ 4) ∧ Sq H r (([] : List Int).map V.int))) ∧ ∀ H' q, Same H H' → H' q = some (.lst (vi (behL w ks))) → Q (.ref q) H'
theorem ok_pbe (T : Tx K mg A) : FnOk P w K mg base CX0 11 A.f_places_behind A.d_places_behind ["row", "arms"] spPbe := by
  refine T.F_places_behind.ok sc_places_behind (fun vs H Q E h => ?_) (fun cdv B outer s H vs Q E hr h => ?_)
  · obtain ⟨r, w, ks, rfl, _⟩ := h
    rfl
  · obtain ⟨r, w, ks, rfl, hcase, q⟩ := h
    have nd := sc_places_behind.nd
    have hw : 1 ≤ w ∧ w ≤ 4 := hcase.elim (fun h => h.1.hw) fun h => h.2.1
    have hrow : RowIn H r ks := hcase.elim (fun h => h.1.row) fun ⟨e, _, hs⟩ => by
      rw [e]
      exact ⟨hs, Nat.zero_le _, fun z hz => (nomatch hz)⟩
    have hfl : faultL ks w = [] := hcase.elim (fun h => h.1.fl) fun ⟨e, _, _⟩ => by rw [e]; rfl
    have hnd : ks.Nodup := hcase.elim (fun h => h.1.nd) fun ⟨e, _, _⟩ => by rw [e]; exact List.nodup_nil
    have h12 : ks.length < 12 := hcase.elim (fun h => h.2) fun ⟨e, _, _⟩ => by rw [e]; decide
    refine ⟨_, PSs.nox (pss_cons (ps_set (i := 2) nd rfl (Or.inr rfl) (pe_call (ok_hwr T) (hr.mono (by decide)) (by rfl) T.m_heap_with_room T.F_heap_with_room.kp (b_hwr T) .nil pass0 (pa_cons (pv 0) (pa_cons (pv 1) pa_nil))))
      (pss_cons (ps_if (pt_not (pt_truK (K := K) rfl (pv 2) (fun _ => rfl))) (pss_one (ps_ret (pe_lst pa_nil))) pss_nil)
      (pss_cons (ps_set (i := 3) nd rfl (Or.inr rfl) (pe_call (ok_pon T) (hr.mono (by decide)) (by rfl) T.m_place_over_next T.F_place_over_next.kp (b_pon T) .nil pass0 (pa_cons (pv 2) (pa_cons (pv 1) pa_nil))))
      (pss_one (ps_ret (pe_lc (own := [("place", 4), ("key", 5)]) (g := gTup K 2 (gCons (gName 4) (gCons (gName 5) gNil))) rfl nd (pi_enS (by rfl) T.g_enumerate (pa_cons (pv 2) pa_nil)) (blkOk_by (own := [("place", 4), ("key", 5)]) (N := ["row", "arms", "heap", "over", "place", "key"]) (sc := (defScope s_places_behind)) (by decide +kernel)) (fun _ _ _ _ _ => pg_tup rfl (pgs_cons (pg_name (i := 4) nd rfl (Or.inl rfl)) (pgs_cons (pg_name (i := 5) nd rfl (Or.inl rfl)) pgs_nil))) (fun _ _ _ _ _ => pts_one (pt_cmpR op_le (pe_ix (r := rIxT K) ix_tup (pv 2) (pv 3) (fun _ _ => rfl)) (pv 5) (nomark _))) (fun _ _ _ _ _ => (pv 4)))))))), ?_⟩
    refine ⟨_, rfl, _, rfl, r, w, ks, rfl, hw, hrow, hfl, hnd, h12, fun H1 t s1 et => ?_⟩
    rcases hcase with ⟨hp, _⟩ | ⟨e, _, _⟩
    rotate_left
    · subst e
      refine ⟨_, rfl, false, .inr (.inl ⟨_, SqT.of et, rfl⟩), iteT ?_⟩
      exact ⟨by show 0 ≤ sizeLine; decide, fun q0 n0 => q _ q0 (s1.trans (Same.up n0)) upd_same⟩
    have h1 := hp.h1
    refine ⟨_, rfl, true, .inr (.inl ⟨_, SqT.of et, by cases ks with | nil => exact absurd h1 (by decide) | cons a l => rfl⟩), iteF ?_⟩
    have hov : overP ks.length w < ks.length := by
      show (ks.length - 1) / w < ks.length
      have := Nat.div_le_self (ks.length - 1) w
      omega
    refine ⟨_, rfl, _, rfl, t, w, _, rfl, hw, SqT.of et, by rw [List.length_map]; exact h1, by rw [List.length_map]; exact h12, fun H2 s2 => ?_⟩
    have et2 := s2 _ _ et
    rw [List.length_map]
    refine ⟨_, rfl, t, _, rfl, .inr ⟨SqT.of et2, fun D nD => ?_⟩⟩
    refine lc_it (walk_enumT (xs := ks.map V.int)) (fun i H' => Acc H2 D (vi (((List.range i).filter (behB w ks)))) H') (Acc.start nD) (fun i H' _ ac => SqT.of (ac.s _ _ et2)) ?_ ?_
    · rintro i x H3 H4 hi ac ⟨T', x1, x2, rfl, hT, rfl, e1, e2⟩
      obtain ⟨hi2, rfl⟩ := ints_at e2
      cases e1
      have ac3 := ac.same (Same.up (o := .tup [V.int (i : Nat), V.int ks[i]]) hT)
      refine ⟨_, _, rfl, SqT.of upd_same, rfl, _, _, rfl, _, _, rfl, rfl, rfl, _, rfl, _, rfl, t, _, _, _, rfl, rfl, SqT.of (ac3.s _ _ et2), key_at hov, _, rfl, _, _, rfl, rfl, _, rfl, ?_⟩
      generalize upd H3 T' (.tup [V.int (i : Nat), V.int ks[i]]) = H5 at ac3
      rw [List.range_succ, List.filter_append]
      by_cases h : keyAt ks (overP ks.length w) ≤ keyAt ks i
      · rw [el_key hi2, decide_eq_true h]
        refine iteT ⟨_, rfl, ?_⟩
        rw [List.filter_cons_of_pos (show behB w ks i = true from decide_eq_true h), List.filter_nil, vi_app]
        refine ⟨_, ac3.a, small1000 ?_, ac3.push⟩
        have := List.length_filter_le (behB w ks) (List.range i)
        rw [List.length_range] at this
        rw [vi_len]
        omega
      · rw [el_key hi2, decide_eq_false h]
        refine iteF ?_
        rw [List.filter_cons_of_neg (by rw [show behB w ks i = false from decide_eq_false h]; exact Bool.false_ne_true), List.filter_nil, List.append_nil]
        exact ac3
    · intro H3 ac
      rw [List.length_map] at ac
      exact q H3 D (s1.trans (s2.trans ac.s)) ac.a
theorem bd_pb (T : Tx K mg A) : ∃ ds, Vals [V.int 2] ds ∧ L2.Binds K A.d_places_behind ["row", "arms"] ds := by
  refine T.F_places_behind.binds0 1 (by simp) rfl (fun D doc pm an cdv ct us ks h1 h2 => ?_)
  match us, ks, h1, h2 with
  | [a], [c], _, _ => exact ⟨_, _, _, _, _, _, rfl, rfl, rfl⟩
instance decOv (w : Nat) (ks : List Int) (place : Nat) (one key : Int) : Decidable (ovP w ks place one key) := by unfold ovP; infer_instance

end
end Tw

set_option Elab.async false
set_option linter.all false
set_option maxRecDepth 100000
set_option maxHeartbeats 2000000
namespace Tw
open PySem PySem.Spec PyProof.Rows L2
section
variable {P : Program} {w : World} {K : PySem.W.Frag} {mg : Str → Option Value} {base : Heap} {A : Ad}
open LamX (ExtN Tabs TabS)
def lheapB (ns : List Int) (w p : Nat) : Bool := (wayL w p).any fun q => decide (ns.getD p 0 < ns.getD q 0)
def lheap (ns : List Int) (w : Nat) : Bool := (List.range ns.length).all fun p => !lheapB ns w p
theorem par_way (w p : Nat) (hw : 1 ≤ w ∧ w ≤ 4) (hp : p ≤ 12) (h0 : 0 < p) : (p - 1) / w ∈ wayL w p := by
  rw [way_rec w p hw hp h0]
  have h := self_sub w (by omega) ((p - 1) / w) (by have := Nat.div_le_self (p - 1) w; omega) hw.1
  exact List.mem_append_left _ h
theorem lheap_fault (ns : List Int) (w : Nat) (hw : 1 ≤ w ∧ w ≤ 4) (hn : ns.length ≤ 12) : lheap ns w = decide (faultL ns w = []) := by
  by_cases h : faultL ns w = []
  · rw [decide_eq_true h]
    unfold lheap
    refine List.all_eq_true.mpr fun p hp => ?_
    have hp := List.mem_range.mp hp
    have z : lheapB ns w p = false := by
      unfold lheapB
      refine List.any_eq_false.mpr fun q hq => ?_
      have := no_fault hw hn h p hp q hq
      rw [decide_eq_false (by omega)]
      exact Bool.false_ne_true
    rw [z]
    rfl
  · rw [decide_eq_false h]
    obtain ⟨p, hp⟩ := List.exists_mem_of_ne_nil _ h
    unfold faultL at hp
    obtain ⟨h1, h2⟩ := List.mem_filter.mp hp
    unfold faultB at h2
    obtain ⟨h3, h4⟩ := Bool.and_eq_true_iff.mp h2
    have h3 := of_decide_eq_true h3
    unfold lheap
    refine List.all_eq_false.mpr ⟨p, h1, ?_⟩
    have hp12 : p ≤ 12 := by have := List.mem_range.mp h1; omega
    have z : lheapB ns w p = true := by
      unfold lheapB
      exact List.any_eq_true.mpr ⟨_, par_way w p hw hp12 h3, h4⟩
    rw [z]
    exact Bool.false_ne_true
theorem way_len : ∀ w, w < 5 → ∀ p, p < 13 → 1 ≤ w → (wayL w p).length ≤ 13 := by decide +kernel
def spLPar : Sp := fun vs H Q _ => ∃ (w i : Nat), vs = [.int w, .int i] ∧ (1 ≤ w ∧ w ≤ 4) ∧ 1 ≤ i ∧ Q (.int ((i - 1) / w : Nat)) H
theorem ok_lpar (T : Tx K mg A) : FnOk P w K mg base CX0 2 A.f__law_parent A.d__law_parent ["wide", "place"] spLPar := by
  refine T.F__law_parent.ok sc__law_parent (fun vs H Q E h => ?_) (fun cdv B outer s H vs Q E hr h => ?_)
  · obtain ⟨w, i, rfl, _⟩ := h
    rfl
  · obtain ⟨w, i, rfl, hw, hi, q⟩ := h
    refine ⟨_, pss_one (ps_ret (pe_op op_fdivN (pe_callTy call_int1 (by rfl) T.g_int (by decide +kernel) (pa_cons (pe_op op_sub (pv 1) pe_int) pa_nil)) (pv 0))), ?_⟩
    refine ⟨_, rfl, _, _, rfl, rfl, .inl ⟨_, rfl, _, rfl, _, _, rfl, rfl, ⟨by omega, by omega⟩, ?_⟩⟩
    have e : Int.fdiv ((i : Int) - 1) (w : Int) = ((i - 1) / w : Nat) := by
      rw [Int.fdiv_eq_ediv_of_nonneg _ (by omega), show ((i : Int) - 1) = ((i - 1 : Nat) : Int) by omega]
      rfl
    show Q (V.int (Int.fdiv ((i : Int) - 1) (w : Int))) H
    rw [e]
    exact q
theorem b_lpar (T : Tx K mg A) : L2.Binds K A.d__law_parent ["wide", "place"] [] := T.F__law_parent.binds fun _ _ _ _ _ _ us hl => match us, hl with | [_, _], _ => rfl
def spLWay : Sp := fun vs H Q _ => ∃ (w i : Nat), vs = [.int w, .int i] ∧ (1 ≤ w ∧ w ≤ 4) ∧ i ≤ 12 ∧ ∀ H' q, Same H H' → H q = none → H' q = some (.lst (vi (wayL w i))) → Q (.ref q) H'
theorem up_head : ∀ w, w < 5 → ∀ p, p < 13 → 1 ≤ w → upL w p = p :: (upL w p).tail := by decide +kernel
theorem ok_lway (T : Tx K mg A) : FnOk P w K mg base CX0 3 A.f__law_way A.d__law_way ["wide", "place"] spLWay := by
  refine T.F__law_way.ok sc__law_way (fun vs H Q E h => ?_) (fun cdv B outer s H vs Q E hr h => ?_)
  · obtain ⟨w, i, rfl, _⟩ := h
    rfl
  · obtain ⟨w, i, rfl, hw, hi, q⟩ := h
    have nd := sc__law_way.nd
    refine ⟨_, pss_cons (ps_set (i := 2) nd rfl (Or.inl rfl) (pe_lst (pa_cons (pv 1) pa_nil)))
      (pss_cons (ps_for PassesOwn.never rfl (pi_range1 rfl T.g_range (pa_cons pe_int pa_nil)) (pg_name (i := 3) nd rfl (Or.inl rfl))
        (pss_cons (ps_if (pt_cmpR op_eq (pe_ix ix_list (pv 2) pe_int (fun _ _ => rfl)) pe_int (nomark _)) (pss_one (ps_ret (pv 2))) pss_nil)
        (pss_one (ps_set (i := 2) nd rfl (Or.inl rfl) (pe_op op_cat (pe_lst (pa_cons (pe_call (ok_lpar T) hr (by rfl) T.m__law_parent T.F__law_parent.kp (b_lpar T) .nil pass0 (pa_cons (pv 0) (pa_cons (pe_ix ix_list (pv 2) pe_int (fun _ _ => rfl)) pa_nil))) pa_nil)) (pv 2))))))
      (pss_one (ps_ret (pv 2)))), ?_⟩
    refine ⟨_, rfl, by show 1 ≤ sizeLine; decide, fun d hd => ?_⟩
    refine ⟨20, rfl, by decide, by decide, for_range (n := 20) (fun k σ H' => ∃ (c : Nat) (L : List Nat) (a : Addr) (z : Option V), σ = [some (.int w), some (.int i), some (.ref a), z] ∧ Same H H' ∧ H a = none ∧ H' a = some (.lst (vi (c :: L))) ∧
      wayL w i = (upL w c).tail.reverse ++ (c :: L) ∧ c + k ≤ 12) ⟨i, [], d, none, rfl, Same.up hd, hd, upd_same, ?_, by omega⟩ ?_ ?_⟩
    · unfold wayL
      have h := up_head w (by omega) i (by omega) hw.1
      rw [h, List.reverse_cons]
      rfl
    · rintro k σ H' hk ⟨c, L, a, z, rfl, s1, a0, ha, eq, hc⟩
      have hat : atI (vi (c :: L)) 0 = some (V.int (c : Nat)) := atI_nat (j := 0) rfl
      refine ⟨_, rfl, a, _, _, _, rfl, rfl, SqL.of ha, hat, rfl, _, rfl, ?_⟩
      by_cases h0 : c = 0
      · rw [decide_eq_true (show V.int (c : Nat) = V.int 0 by rw [h0]; rfl)]
        refine iteT ⟨_, rfl, q _ a s1 a0 ?_⟩
        subst h0
        have e0 := up_eq w (by omega) 0 (by omega) hw.1
        rw [if_pos rfl] at e0
        rw [e0] at eq
        rw [ha, eq]
        rfl
      · rw [decide_eq_false (show ¬ V.int (c : Nat) = V.int 0 by intro z; injection z with z; omega)]
        refine iteF ?_
        have hlt : (c - 1) / w < c := Nat.lt_of_le_of_lt (Nat.div_le_self _ _) (by omega)
        have e1 := up_eq w (by omega) c (by omega) hw.1
        rw [if_neg h0] at e1
        have e2 := up_head w (by omega) ((c - 1) / w) (by omega) hw.1
        have hlen : (c :: L).length ≤ 13 := by
          have h3 := way_len w (by omega) i (by omega) hw.1
          rw [eq, List.length_append] at h3
          omega
        refine ⟨_, rfl, _, rfl, a, _, _, _, rfl, rfl, SqL.of ha, hat, w, c, rfl, hw, by omega, by show 1 ≤ sizeLine; decide, fun a2 ha2 => ?_⟩
        have s2 : Same H' (upd H' a2 (.lst [V.int ((c - 1) / w : Nat)])) := Same.up ha2
        refine ⟨_, rfl, a2, a, _, _, rfl, rfl, upd_same, s2 _ _ ha, ?_, fun a3 ha3 => ?_⟩
        · rw [vi_len]
          exact Nat.le_of_lt (small1000 (by rw [List.length_singleton]; omega))
        · refine ⟨(c - 1) / w, c :: L, a3, _, rfl, s1.trans (s2.trans (Same.up ha3)), (s1.trans s2).free ha3, upd_same, ?_, by omega⟩
          rw [eq, e1, List.tail_cons]
          conv => lhs; rw [e2]
          rw [List.reverse_cons, List.append_assoc]
          rfl
    · rintro σ H' ⟨c, L, a, z, rfl, s1, a0, ha, eq, hc⟩
      omega
theorem b_lway (T : Tx K mg A) : L2.Binds K A.d__law_way ["wide", "place"] [] := T.F__law_way.binds fun _ _ _ _ _ _ us hl => match us, hl with | [_, _], _ => rfl
theorem way_le : ∀ w, w < 5 → ∀ p, p < 13 → 1 ≤ w → ∀ q ∈ wayL w p, q ≤ p := by decide +kernel
def spLIs : Sp := fun vs H Q _ => ∃ (a w : Nat) (ns : List Int), vs = [.ref a, .int w] ∧ (1 ≤ w ∧ w ≤ 4) ∧ RowIn H a ns ∧ ∀ H', Same H H' → Q (.bl (lheap ns w)) H'
theorem ok_lis (T : Tx K mg A) : FnOk P w K mg base CX0 4 A.f__law_is_heap A.d__law_is_heap ["row", "wide"] spLIs := by
  refine T.F__law_is_heap.ok sc__law_is_heap (fun vs H Q E h => ?_) (fun cdv B outer s H vs Q E hr h => ?_)
  · obtain ⟨a, w, ns, rfl, _⟩ := h
    rfl
  · obtain ⟨a, w, ns, rfl, hw, hrow, q⟩ := h
    have nd := sc__law_is_heap.nd
    have hlen := hrow.2.1
    refine ⟨_, pss_cons (ps_for PassesOwn.never rfl (pi_range1 rfl T.g_range (pa_cons (pe_callB call_len_seq (by rfl) T.g_len PySem.boot_len (pa_cons (pv 0) pa_nil)) pa_nil)) (pg_name (i := 2) nd rfl (Or.inr rfl))
      (pss_one (ps_if (pt_val (pe_callB (cr_any rfl) (by rfl) T.g_any (by decide +kernel) (pa_cons
        (pe_lc (own := [("above", 3)]) (g := gName 3) (tt := tYes) rfl nd (pi_list (pe_call (ok_lway T) hr (by rfl) T.m__law_way T.F__law_way.kp (b_lway T) .nil pass0 (pa_cons (pv 1) (pa_cons (pv 2) pa_nil))))
          (blkOk_by (own := [("above", 3)]) (N := ["row", "wide", "place", "above"]) (sc := defScope s__law_is_heap) (by decide +kernel)) (fun _ _ _ _ _ => pg_name (i := 3) nd rfl (Or.inl rfl)) (fun _ _ _ _ _ => pts_nil)
          (fun _ _ _ _ _ => pe_cmpR op_lt (pe_ix (r := rIx K) ix_seq (pv 0) (pv 2) (fun _ _ => rfl)) (pe_ix (r := rIx K) ix_seq (pv 0) (pv 3) (fun _ _ => rfl)) (nomark _))) pa_nil))) (pss_one (ps_ret pe_bl)) pss_nil)))
      (pss_one (ps_ret pe_bl)), ?_⟩
    refine ⟨_, rfl, a, _, rfl, hrow.1.len, _, rfl, by omega, by rw [List.length_map]; omega, ?_⟩
    rw [Int.toNat_natCast, List.length_map]
    refine for_range (n := ns.length) (fun k σ H' => ∃ z u, σ = [some (.ref a), some (.int w), z, u] ∧ Same H H' ∧ ∀ p, p < k → lheapB ns w p = false) ⟨none, none, rfl, Same.refl _, fun p hp => (nomatch hp)⟩ ?_ ?_
    · rintro k σ H' hk ⟨z, u, rfl, s1, hno⟩
      have z0 : V.int ((0 : Int) + (k : Nat)) = V.int (k : Nat) := by rw [Int.zero_add]
      rw [z0]
      refine ⟨_, rfl, _, rfl, w, k, rfl, hw, by omega, fun H2 b s2 b0 hb => ?_⟩
      have hwl := way_len w (by omega) k (by omega) hw.1
      refine ⟨b, rfl, ⟨_, SqL.of hb⟩, fun D hD => ?_⟩
      refine lc_it (walk_list (xs := vi (wayL w k))) (PickI H2 D (wayL w k) fun q => some (V.bl (decide (ns.getD k 0 < ns.getD q 0)))) (pick_start hD) (fun k H' _ h => SqL.of (h.s _ _ hb)) ?_ ?_
      · rintro j x H5 H6 hj pk ⟨rfl, ex⟩
        obtain ⟨hj', rfl⟩ := map_at ex
        have hq : (wayL w k)[j] < ns.length := by
          have h := way_le w (by omega) k (by omega) hw.1 _ (List.getElem_mem hj')
          omega
        have hr6 := (hrow.1.same s1).same (s2.trans pk.s)
        refine ⟨rfl, ?_⟩
        refine iteT (B := PickI H2 D (wayL w k) (fun q => some (V.bl (decide (ns.getD k 0 < ns.getD q 0)))) (j + 1) H6) ?_
        exact ⟨_, rfl, _, rfl, ix_sq hr6 hk ⟨_, rfl, _, rfl, ix_sq hr6 hq ⟨_, _, rfl, rfl, pick_yes hj' (by omega) rfl (Same.refl _) pk⟩⟩⟩
      · intro H5 pk
        have ac := pick_end (vi_len _) pk
        have e : ((wayL w k).filterMap fun q => some (V.bl (decide (ns.getD k 0 < ns.getD q 0)))) = ((wayL w k).map fun q => decide (ns.getD k 0 < ns.getD q 0)).map V.bl := by
          rw [List.filterMap_eq_map', List.map_map]
          rfl
        rw [e] at ac
        refine ⟨D, _, rfl, SqL.of ac.a, _, rfl, ?_⟩
        have ea : ((wayL w k).map fun q => decide (ns.getD k 0 < ns.getD q 0)).any id = lheapB ns w k := by
          rw [List.any_map]
          rfl
        rw [ea]
        have s5 := s1.trans (s2.trans ac.s)
        cases hb2 : lheapB ns w k with
        | true =>
          refine iteT ?_
          have el : lheap ns w = false := by
            unfold lheap
            refine List.all_eq_false.mpr ⟨k, List.mem_range.mpr hk, ?_⟩
            rw [hb2]
            exact Bool.false_ne_true
          rw [el] at q
          exact q _ s5
        | false =>
          refine iteF ⟨_, _, rfl, s5, fun p hp => ?_⟩
          by_cases e2 : p = k
          · rw [e2, hb2]
          · exact hno p (by omega)
    · rintro σ H' ⟨z, u, rfl, s1, hno⟩
      have el : lheap ns w = true := by
        unfold lheap
        refine List.all_eq_true.mpr fun p hp => ?_
        rw [hno p (List.mem_range.mp hp)]
        rfl
      rw [el] at q
      exact q _ s1
theorem b_lis (T : Tx K mg A) : L2.Binds K A.d__law_is_heap ["row", "wide"] [] := T.F__law_is_heap.binds fun _ _ _ _ _ _ us hl => match us, hl with | [_, _], _ => rfl
/-- a tuple of keys at an address -/
def RowAt (H : Hp) (v : V) (l : List Int) : Prop := ∃ t, v = .ref t ∧ H t = some (.tup (l.map V.int))
abbrev RowsAt (H : Hp) : List V → List (List Int) → Prop := Paired (RowAt H)
theorem RowsAt.same {H H' : Hp} {xs : List V} {ls : List (List Int)} (h : RowsAt H xs ls) (s : Same H H') : RowsAt H' xs ls := L2.Paired.mapP h fun _ _ ⟨t, e, z⟩ => ⟨t, e, s _ _ z⟩
theorem RowsAt.push {H : Hp} {x : V} {l : List Int} (hp : RowAt H x l) : ∀ {xs : List V} {ls : List (List Int)}, RowsAt H xs ls → RowsAt H (xs ++ [x]) (ls ++ [l])
  | _, _, .nil => .cons hp .nil
  | _, _, .cons a b => .cons a (RowsAt.push hp b)
theorem RowsAt.get {H : Hp} : ∀ {xs : List V} {ls : List (List Int)} {i : Nat} {x : V}, RowsAt H xs ls → xs[i]? = some x → ∃ hi : i < ls.length, RowAt H x ls[i]
  | _, _, 0, _, .cons a _, e => ⟨Nat.succ_pos _, by rw [← Option.some.inj e]; exact a⟩
  | _, _, i + 1, _, .cons _ b, e => by
    obtain ⟨hi, r⟩ := RowsAt.get b (by simpa using e)
    exact ⟨Nat.succ_lt_succ hi, r⟩
structure AccR (H1 : Hp) (D : Addr) (ls : List (List Int)) (H : Hp) : Prop where
  s : Same H1 H
  n : H1 D = Option.none
  a : ∃ xs, H D = some (.lst xs) ∧ RowsAt H xs ls
theorem AccR.start {H1 : Hp} {D : Addr} (n : H1 D = none) : AccR H1 D [] (upd H1 D (.lst [])) := ⟨Same.up n, n, [], upd_same, .nil⟩
theorem AccR.same {H1 H H' : Hp} {D : Addr} {ls : List (List Int)} (h : AccR H1 D ls H) (s : Same H H') : AccR H1 D ls H' := ⟨h.s.trans s, h.n, let ⟨xs, e, z⟩ := h.a; ⟨xs, s _ _ e, z.same s⟩⟩
theorem RowsAt.put {H : Hp} {D : Addr} {xs zs ys : List V} {ls : List (List Int)} (hD : H D = some (.lst zs)) (h : RowsAt H xs ls) : RowsAt (upd H D (.lst ys)) xs ls :=
  L2.Paired.mapP h fun _ _ ⟨t, e, z⟩ => ⟨t, e, by rw [upd_ne (ne_of z hD (by intro q; cases q))]; exact z⟩
theorem AccR.push {H1 H : Hp} {D : Addr} {ls : List (List Int)} {x : V} {l : List Int} (h : AccR H1 D ls H) (hp : RowAt H x l) (hl : ls.length < sizeLine) :
    ∃ acc, H D = some (.lst acc) ∧ acc.length < sizeLine ∧ AccR H1 D (ls ++ [l]) (upd H D (.lst (acc ++ [x]))) := by
  obtain ⟨xs, e, z⟩ := h.a
  refine ⟨xs, e, by rw [z.length]; exact hl, fun b o k => ?_, h.n, xs ++ [x], upd_same, (RowsAt.push hp z).put e⟩
  rw [upd_ne (ne_of_none k h.n)]
  exact h.s b o k
theorem flat_len {α β : Type} (f : α → List β) (c : Nat) : ∀ l : List α, (∀ a ∈ l, (f a).length ≤ c) → (l.flatMap f).length ≤ l.length * c
  | [], _ => by simp
  | a :: l, h => by
    have h1 := h a List.mem_cons_self
    have h2 := flat_len f c l fun b hb => h b (List.mem_cons_of_mem _ hb)
    rw [List.flatMap_cons, List.length_append, List.length_cons, Nat.succ_mul]
    omega
theorem perms_len : ∀ (n : Nat) (l : List Int), l.length ≤ 6 → (permsL n l).length ≤ 6 ^ n
  | 0, _, _ => Nat.le_refl _
  | n + 1, l, h => by
    unfold permsL
    have hf := flat_len (fun x => (permsL n (l.erase x)).map fun s => x :: s) (6 ^ n) (ascL l) fun x hx => by
      rw [List.length_map]
      refine perms_len n _ ?_
      have := List.length_erase_le (a := x) (l := l)
      omega
    have h2 := ascL_len l
    rw [Nat.pow_succ, Nat.mul_comm]
    exact Nat.le_trans hf (Nat.mul_le_mul_right _ (by omega))
theorem heap_fault_k11 (r : List Int) (w : Nat) : heapB w r = decide (faultL r w = []) := by
  have e : ∀ p, (decide (p = 0) || decide (r.getD ((p - 1) / w) 0 ≤ r.getD p 0)) = !faultB r w p := fun p => by
    unfold faultB
    by_cases h : p = 0
    · subst h
      simp
    · rw [decide_eq_false h, Bool.false_or, decide_eq_true (show 0 < p by omega), Bool.true_and]
      by_cases c : r.getD p 0 < r.getD ((p - 1) / w) 0
      · rw [decide_eq_true c, decide_eq_false (by omega)]
        rfl
      · rw [decide_eq_false c, decide_eq_true (by omega)]
        rfl
  unfold heapB faultL
  by_cases h : (List.range r.length).filter (faultB r w) = []
  · rw [decide_eq_true h, List.all_eq_true]
    intro p hp
    rw [e]
    rw [List.filter_eq_nil_iff] at h
    have := h p hp
    simpa using this
  · rw [decide_eq_false h]
    cases c : (List.range r.length).all fun c => decide (c = 0) || decide (r.getD ((c - 1) / w) 0 ≤ r.getD c 0) with
    | false => rfl
    | true =>
      exfalso
      refine h (List.filter_eq_nil_iff.mpr fun p hp z => ?_)
      have := List.all_eq_true.mp c p hp
      rw [e, z] at this
      cases this
theorem perms_el : ∀ (n : Nat) (l r : List Int), r ∈ permsL n l → r.length = n
  | 0, _, r, h => by
    rw [List.mem_singleton.mp h]
    rfl
  | n + 1, l, r, h => by
    obtain ⟨x, _, h2⟩ := List.mem_flatMap.mp h
    obtain ⟨t, h3, rfl⟩ := List.mem_map.mp h2
    rw [List.length_cons, perms_el n _ t h3]
theorem b_ll (T : Tx K mg A) : L2.Binds K A.d__law_lists ["keys"] [] := T.F__law_lists.binds fun _ _ _ _ _ _ us hl => match us, hl with | [_], _ => rfl
theorem ints_dp (K : PySem.W.Frag) (H : Hp) : ∀ ns : List Int, DpAll K H (ns.map V.int) (ns.map PyData.int)
  | [] => .nil
  | n :: ns => .cons (.int n) (ints_dp K H ns)
theorem emp_eqv : ∀ ns : List Int, PyData.eqv (.list (ns.map PyData.int)) (.list []) = decide (ns = [])
  | [] => by rfl
  | n :: ns => by rfl
theorem shaped_ints (ns : List Int) : SeqAt.shaped (.list (ns.map PyData.int)) = true := by
  have h1 : ∀ ms : List Int, PyData.canLayAll0 (ms.map PyData.int) = true := fun ms => by
    induction ms with
    | nil => rfl
    | cons m ms ih => rw [List.map_cons, PyData.canLayAll0, ih]; rfl
  have h2 : ∀ ms : List Int, PyData.depthAll (ms.map PyData.int) ≤ 1 := fun ms => by
    induction ms with
    | nil => simp [PyData.depthAll]
    | cons m ms ih =>
      simp only [List.map_cons, PyData.depthAll, PyData.depth]
      omega
  have h3 : PyData.depth (.list (ns.map PyData.int)) ≤ 64 := by
    have := h2 ns
    simp only [PyData.depth]
    omega
  unfold SeqAt.shaped
  rw [decide_eq_true h3, Bool.and_true]
  simp only [PyData.canLay0]
  exact h1 ns
theorem sorted_one {xs ys : List Int} (hp : xs.Perm ys) (h1 : xs.Pairwise (· ≤ ·)) (h2 : ys.Pairwise (· ≤ ·)) : xs = ys := List.Perm.eq_of_pairwise (fun x y _ _ h1 h2 => Int.le_antisymm h1 h2) h1 h2 hp
theorem asc_nodup {l : List Int} (h : l.Pairwise (· < ·)) : l.Nodup := h.imp fun a => Int.ne_of_lt a
theorem asc_eq {l m : List Int} (h1 : l.Pairwise (· < ·)) (h2 : m.Pairwise (· < ·)) (h : ∀ x, x ∈ l ↔ x ∈ m) : l = m :=
  List.Perm.eq_of_pairwise (fun x y _ _ a b => absurd (Int.lt_trans a b) (Int.lt_irrefl _)) h1 h2 ((List.perm_ext_iff_of_nodup (asc_nodup h1) (asc_nodup h2)).mpr fun x => h x)
theorem ascL_perm {l m : List Int} (h : l.Perm m) : ascL l = ascL m := asc_eq (ascL_asc l) (ascL_asc m) fun x => by rw [ascL_mem, ascL_mem, h.mem_iff]
theorem permsL_perm : ∀ (n : Nat) {l m : List Int}, l.Perm m → permsL n l = permsL n m
  | 0, _, _, _ => rfl
  | n + 1, l, m, h => by
    unfold permsL
    rw [ascL_perm h]
    refine congrArg (fun f => (ascL m).flatMap f) (funext fun x => ?_)
    rw [permsL_perm n (h.erase x)]
def firstB (s : List Int) (j : Nat) : Bool := decide (j = 0) || decide (s.getD (j - 1) 0 ≠ s.getD j 0)
theorem getD_at {s : List Int} {j : Nat} (h : j < s.length) : s.getD j 0 = s[j] := by
  rw [List.getD_eq_getElem?_getD, List.getElem?_eq_getElem h]
  rfl
def ordL (s : List Int) (i : Nat) : List (List Int) := ((List.range i).filter (firstB s)).flatMap fun j => (permsL (s.length - 1) (s.eraseIdx j)).map fun r => s.getD j 0 :: r
theorem srt_le {s : List Int} (hs : s.Pairwise (· ≤ ·)) {i j : Nat} (h : i ≤ j) (hj : j < s.length) : s.getD i 0 ≤ s.getD j 0 := by
  rw [getD_at (by omega), getD_at hj]
  rcases Nat.lt_or_ge i j with c | c
  · exact List.pairwise_iff_getElem.mp hs i j (by omega) hj c
  · have : i = j := by omega
    subst this
    exact Int.le_refl _
theorem first_ex (s : List Int) : ∀ j, j < s.length → ∃ i, i < s.length ∧ firstB s i = true ∧ s.getD i 0 = s.getD j 0
  | 0, h => ⟨0, h, rfl, rfl⟩
  | j + 1, h => by
    by_cases e : s.getD j 0 = s.getD (j + 1) 0
    · obtain ⟨i, h1, h2, h3⟩ := first_ex s j (by omega)
      exact ⟨i, h1, h2, h3.trans e⟩
    · refine ⟨j + 1, h, ?_, rfl⟩
      unfold firstB
      rw [Nat.add_sub_cancel, decide_eq_true e, Bool.or_true]
theorem asc_first {s : List Int} (hs : s.Pairwise (· ≤ ·)) : ascL s = ((List.range s.length).filter (firstB s)).map fun j => s.getD j 0 := by
  refine asc_eq (ascL_asc s) ?_ fun x => ?_
  · rw [List.pairwise_map]
    refine List.Pairwise.imp_of_mem (fun {i j} hi hj h => ?_) (List.Pairwise.filter _ List.pairwise_lt_range)
    have hj2 := List.mem_range.mp (List.mem_filter.mp hj).1
    have f := (List.mem_filter.mp hj).2
    unfold firstB at f
    rw [Bool.or_eq_true, decide_eq_true_eq, decide_eq_true_eq] at f
    have a := srt_le hs (show i ≤ j - 1 by omega) (by omega)
    have b := srt_le hs (show j - 1 ≤ j by omega) hj2
    rcases f with e | e <;> omega
  · rw [ascL_mem, List.mem_map]
    refine ⟨fun h => ?_, fun ⟨j, h1, h2⟩ => ?_⟩
    · obtain ⟨j, hj, e⟩ := List.getElem_of_mem h
      obtain ⟨i, h1, h2, h3⟩ := first_ex s j hj
      exact ⟨i, List.mem_filter.mpr ⟨List.mem_range.mpr h1, h2⟩, by rw [h3, getD_at hj, e]⟩
    · have hj := List.mem_range.mp (List.mem_filter.mp h1).1
      rw [← h2, getD_at hj]
      exact List.getElem_mem hj
theorem at_perm : ∀ (s : List Int) (j : Nat) (h : j < s.length), (s[j] :: s.eraseIdx j).Perm s
  | a :: l, 0, _ => List.Perm.refl _
  | a :: l, j + 1, h => (List.Perm.swap a _ _).trans ((at_perm l j (Nat.lt_of_succ_lt_succ h)).cons a)
theorem ord_end {s : List Int} (hs : s.Pairwise (· ≤ ·)) (hn : s ≠ []) : ordL s s.length = permsL s.length s := by
  have hl := List.length_pos_iff.mpr hn
  obtain ⟨m, hm⟩ : ∃ m, s.length = m + 1 := ⟨s.length - 1, by omega⟩
  unfold ordL
  rw [hm, Nat.add_sub_cancel]
  show _ = (ascL s).flatMap fun x => (permsL m (s.erase x)).map fun r => x :: r
  rw [asc_first hs, List.flatMap_map, hm]
  refine flat_congr _ fun j hj => ?_
  have hj2 : j < s.length := by
    rw [hm]
    exact List.mem_range.mp (List.mem_filter.mp hj).1
  rw [getD_at hj2]
  refine congrArg (List.map _) (permsL_perm m ?_)
  have h1 : (s[j] :: s.eraseIdx j).Perm s := at_perm s j hj2
  have h2 : s.Perm (s[j] :: s.erase s[j]) := List.perm_cons_erase (List.getElem_mem hj2)
  exact (List.perm_cons _).mp (h1.trans h2)
end
end Tw

set_option Elab.async false
set_option linter.all false
set_option maxRecDepth 100000
set_option maxHeartbeats 2000000
namespace Tw
open PySem PySem.Spec PyProof.Rows L2
section
variable {P : Program} {w : World} {K : PySem.W.Frag} {mg : Str → Option Value} {base : Heap} {A : Ad}
open LamX (ExtN Tabs TabS)
theorem ord_succ (s : List Int) (i : Nat) : ordL s (i + 1) = ordL s i ++ (if firstB s i = true then (permsL (s.length - 1) (s.eraseIdx i)).map fun r => s.getD i 0 :: r else []) := by
  unfold ordL
  rw [List.range_succ, List.filter_append, List.flatMap_append]
  by_cases h : firstB s i = true
  · rw [if_pos h, List.filter_cons_of_pos h]
    simp
  · rw [if_neg h, List.filter_cons_of_neg h]
    simp
theorem ord_len (s : List Int) (h : s.length ≤ 6) : ∀ i, i ≤ s.length → (ordL s i).length ≤ i * 7776
  | 0, _ => by simp [ordL]
  | i + 1, hi => by
    have h1 := ord_len s h i (by omega)
    have h2 : (permsL (s.length - 1) (s.eraseIdx i)).length ≤ 7776 := by
      refine Nat.le_trans (perms_len _ _ (by rw [List.length_eraseIdx]; split <;> omega)) ?_
      have : ∀ k, k < 6 → 6 ^ k ≤ 7776 := by decide
      exact this _ (by omega)
    rw [ord_succ, List.length_append]
    by_cases c : firstB s i = true
    · rw [if_pos c, List.length_map]
      omega
    · rw [if_neg c]
      have : ([] : List (List Int)).length = 0 := rfl
      omega
def spLL (n : Nat) : Sp := fun vs H Q _ => ∃ (k : Nat) (ks : List Int), vs = [.ref k] ∧ H k = some (.lst (ks.map V.int)) ∧ ks.length < n ∧ ks.length ≤ 6 ∧
  ∀ (H' : Hp) (q : Addr) (xs : List V), Same H H' → H q = none → H' q = some (.lst xs) → RowsAt H' xs (permsL ks.length ks) → Q (.ref q) H'
theorem era_map : ∀ (l : List Int) (i : Nat), (l.map V.int).eraseIdx i = (l.eraseIdx i).map V.int
  | [], _ => rfl
  | _ :: _, 0 => rfl
  | a :: l, i + 1 => by
    rw [List.map_cons, List.eraseIdx_cons_succ, List.eraseIdx_cons_succ, List.map_cons, era_map l i]
theorem RowsAt.app {H : Hp} : ∀ {xs ys : List V} {ls ms : List (List Int)}, RowsAt H xs ls → RowsAt H ys ms → RowsAt H (xs ++ ys) (ls ++ ms)
  | _, _, _, _, .nil, h => h
  | _, _, _, _, .cons a b, h => .cons a (RowsAt.app b h)
theorem lc_go {n : Nat} {H : Hp} {k q1 r : Addr} {i x : Int} {xs : List V} {ls : List (List Int)} {l : List Int} {Q : VK} (hq : H q1 = some (.lst xs)) (hr : RowsAt H xs ls) (hl : H r = some (.lst (l.map V.int))) (hn : l.length < n) (h6 : l.length ≤ 5) (hls : ls.length ≤ 60000)
    (q : ∀ (H' : Hp) (q2 : Addr) (ys : List V), Same H H' → H q2 = none → H' q2 = some (.lst ys) → RowsAt H' ys (ls ++ (permsL l.length l).map fun z => x :: z) → Q (.ref q2) H') :
    tOp rCat (tVar 1) (tLc (iList K (tCall (spLL n) [] E0 (tCons (tVar 4) tNil))) (gName 5) tYes (tOp (rCatA K) (tTup (tCons (tVar 3) tNil)) (tVar 5)) [5]) [some (.ref k), some (.ref q1), some (.int i), some (.int x), some (.ref r), none] H Q := by
  have hp : (permsL l.length l).length ≤ 7776 := by
    refine Nat.le_trans (perms_len _ _ (by omega)) ?_
    have : ∀ k, k < 6 → 6 ^ k ≤ 7776 := by decide
    exact this _ (by omega)
  refine ⟨_, rfl, _, rfl, r, l, rfl, hl, hn, by omega, fun H1 p ys s1 np ep rp => ?_⟩
  refine ⟨p, rfl, ⟨_, SqL.of ep⟩, fun D nD => ?_⟩
  have hyl : ys.length = (permsL l.length l).length := Paired.length rp
  refine lc_it (walk_list (xs := ys)) (fun j H' => AccR H1 D (((permsL l.length l).take j).map fun z => x :: z) H') (AccR.start nD) (fun j H' _ ac => SqL.of (ac.s _ _ ep)) ?_ ?_
  · rintro j y H2o H2 hj ac ⟨rfl, hy⟩
    obtain ⟨hj2, t, rfl, et⟩ := rp.get hy
    have et2 := ac.s _ _ et
    refine ⟨rfl, iteT (B := AccR H1 D (((permsL l.length l).take (j + 1)).map fun z => x :: z) H2) ?_⟩
    refine ⟨_, rfl, by show 1 ≤ sizeLine; decide, fun u nu => ?_⟩
    have su := Same.up (o := .tup [V.int x]) nu
    have fin : ∀ (c : Addr) (G : Hp), Same H2 G → G c = some (.tup ((x :: (permsL l.length l)[j]).map V.int)) → ∃ acc, G D = some (.lst acc) ∧ acc.length < sizeLine ∧ AccR H1 D (((permsL l.length l).take (j + 1)).map fun z => x :: z) (upd G D (.lst (acc ++ [V.ref c]))) := fun c G s ec => by
      have h := (ac.same s).push (x := .ref c) (l := x :: (permsL l.length l)[j]) ⟨c, rfl, ec⟩ (by rw [List.length_map, List.length_take, sizeLine_eq]; omega)
      rw [← List.take_append_getElem hj2, List.map_append]
      exact h
    have h6j : (permsL l.length l)[j].length ≤ 100 := by
      rw [perms_el _ _ _ (List.getElem_mem hj2)]
      omega
    refine ⟨_, rfl, u, t, _, _, rfl, rfl, SqT.of upd_same, SqT.of (su _ _ et2), Nat.le_of_lt (small1000 (by rw [List.length_map, List.length_singleton]; omega)), fun z => (nomatch z), fun _ z => ?_, fun _ _ c nc => ?_⟩
    · have e0 : (permsL l.length l)[j] = [] := List.map_eq_nil_iff.mp z
      refine fin u _ su ?_
      rw [e0]
      exact upd_same
    · exact fin c _ (su.trans (Same.up nc)) upd_same
  · intro H2 ac
    rw [hyl, List.take_length] at ac
    obtain ⟨zs, ez, rz⟩ := ac.a
    have s12 := s1.trans ac.s
    refine ⟨q1, D, xs, zs, rfl, rfl, s12 _ _ hq, ez, ?_, fun q2 n2 => q _ q2 (xs ++ zs) (s12.trans (Same.up n2)) (s12.free n2) upd_same (RowsAt.same ((hr.same s12).app rz) (Same.up n2))⟩
    have e1 : xs.length = ls.length := Paired.length hr
    have e2 : zs.length = _ := Paired.length rz
    rw [List.length_map] at e2
    rw [sizeLine_eq]
    omega
theorem ok_ll (T : Tx K mg A) : ∀ n, FnOk P w K mg base CX0 (n + 1) A.f__law_lists A.d__law_lists ["keys"] (spLL n)
  | 0 => by
    refine T.F__law_lists.ok sc__law_lists (fun vs H Q E h => ?_) (fun cdv B outer s H vs Q E hr h => ?_)
    · obtain ⟨k, ks, rfl, _⟩ := h
      rfl
    · obtain ⟨k, ks, rfl, _, h, _⟩ := h
      exact absurd h (Nat.not_lt_zero _)
  | n + 1 => by
    have ih := ok_ll T n
    refine T.F__law_lists.ok sc__law_lists (fun vs H Q E h => ?_) (fun cdv B outer s H vs Q E hr h => ?_)
    · obtain ⟨k, ks, rfl, _⟩ := h
      rfl
    · obtain ⟨k, ks, rfl, hk, hlt, h6, q⟩ := h
      have nd := sc__law_lists.nd
      have hu : (B.deeper (envOfC "_law_lists" (defScope s__law_lists) s.heap.objs.size A.f__law_lists cdv)).units + 64 < cLine := by have := hr.un; omega
      refine ⟨_, (pss_cons (ps_if (pt_cmpR (op_eqD hu) (pv 0) (pe_lst pa_nil) (nomark _)) (pss_one (ps_ret (pe_lst (pa_cons (pe_tup pa_nil) pa_nil)))) pss_nil)
      (pss_cons (ps_set (i := 1) nd rfl (Or.inl rfl) (pe_lst pa_nil))
      (C8.pss_cut (ps_for PassesOwn.never rfl (pi_enum (by rfl) T.g_enumerate (pa_cons (pe_callB cr_sortedI (by rfl) T.g_sorted (by decide +kernel) (pa_cons (pv 0) pa_nil)) pa_nil)) (pg_tup rfl (pgs_cons (pg_name (i := 2) nd rfl (Or.inl rfl)) (pgs_cons (pg_name (i := 3) nd rfl (Or.inr rfl)) pgs_nil))) (pss_cons (ps_set (i := 4) nd rfl (Or.inl rfl) (pe_callB cr_sortedI (by rfl) T.g_sorted (by decide +kernel) (pa_cons (pv 0) pa_nil)))
      (pss_cons (ps_expr (pe_bm PySem.F.plainAttrs_list PySem.F.slot_list_pop PySem.F.type_list_pop mt_popAt (pv 4) (pa_cons (pv 2) pa_nil)))
      (pss_one (ps_if (PW.pt (pw_or (pt_cmpR op_eq (pv 2) pe_int (nomark _)) (pw_or1 (pt_cmpR op_ne (pe_ix ix_list (pe_callB cr_sortedI (by rfl) T.g_sorted (by decide +kernel) (pa_cons (pv 0) pa_nil)) (pe_op op_sub (pv 2) pe_int) (fun _ _ => rfl)) (pv 3) (nomark _))))) (pss_one (ps_set (i := 1) nd rfl (Or.inl rfl) (pe_op op_cat (pv 1) (pe_lc (own := [("row", 5)]) (g := gName 5) (tt := tYes) rfl nd (pi_list (pe_call ih hr (by rfl) T.m__law_lists T.F__law_lists.kp (b_ll T) .nil pass0 (pa_cons (pv 4) pa_nil))) (blkOk_by (own := [("row", 5)]) (N := ["keys", "found", "at", "key", "rest", "row"]) (sc := defScope s__law_lists) (by decide +kernel)) (fun _ _ _ _ _ => pg_name (i := 5) nd rfl (Or.inl rfl)) (fun _ _ _ _ _ => pts_nil) (fun _ _ _ _ _ => (pe_op (r := rCatA K) op_catA (pe_tup (pa_cons (pv 3) pa_nil)) (pv 5))))))) pss_nil)))))
      (pss_one (ps_ret (pv 1)))))), ?_⟩
      refine ⟨_, rfl, Nat.zero_le _, fun l0 nl0 => ?_⟩
      have s0 : Same H (upd H l0 (.lst [])) := Same.up nl0
      refine ⟨.list (ks.map .int), .list [], .lst (SqL.of (s0 _ _ hk)) (ints_dp _ _ _), .lst (SqL.of upd_same) .nil, shaped_ints _, rfl, _, rfl, ?_⟩
      rw [emp_eqv]
      by_cases hn : ks = []
      · rw [decide_eq_true hn]
        refine iteT ?_
        refine ⟨Nat.zero_le _, fun e ne => ⟨by show 1 ≤ sizeLine; decide, fun D nD => ?_⟩⟩
        have se := Same.up (o := .tup []) ne
        subst hn
        exact q _ D [.ref e] (s0.trans (se.trans (Same.up nD))) (s0.free (se.free nD)) upd_same (.cons ⟨e, rfl, (Same.up nD) _ _ upd_same⟩ .nil)
      · rw [decide_eq_false hn]
        refine iteF ?_
        refine ⟨Nat.zero_le _, fun D nD => ?_⟩
        have s1 : Same H (upd (upd H l0 (.lst [])) D (.lst [])) := s0.trans (Same.up nD)
        have hnD : H D = none := s0.free nD
        have eD : upd (upd H l0 (.lst [])) D (.lst []) D = some (.lst []) := upd_same
        revert s1 eD
        generalize upd (upd H l0 (.lst [])) D (.lst []) = H1
        intro s1 eD
        refine ⟨fun σ' H' => ∃ (x2 x3 x4 : Option V) (q1 : Addr) (xs : List V), σ' = [some (.ref k), some (.ref q1), x2, x3, x4, none] ∧ Same H H' ∧ H q1 = none ∧ H' q1 = some (.lst xs) ∧ RowsAt H' xs (permsL ks.length ks), ?_, ?_⟩
        · refine ⟨_, rfl, k, ks, rfl, SqL.of (s1 _ _ hk), fun s a perm srt na => ?_⟩
          have sa : Same H1 (upd H1 a (.lst (s.map V.int))) := Same.up na
          have hsl : s.length = ks.length := perm.length_eq
          refine ⟨a, _, rfl, SqL.of upd_same, ?_⟩
          refine for_it (walk_enum (xs := s.map V.int)) (fun i σ' H' => ∃ (x2 x3 x4 : Option V) (q1 : Addr) (xs : List V), σ' = [some (.ref k), some (.ref q1), x2, x3, x4, none] ∧ Same (upd H1 a (.lst (s.map V.int))) H' ∧ H q1 = none ∧ H' q1 = some (.lst xs) ∧ RowsAt H' xs (ordL s i))
            ⟨none, none, none, D, [], rfl, Same.refl _, hnD, sa _ _ eD, .nil⟩ (fun i σ' H' _ ⟨_, _, _, _, _, _, s, _⟩ => SqL.of (s _ _ upd_same)) ?_ ?_
          · rintro i v σ' H2 H3 hi ⟨x2, x3, x4, q1, xs, rfl, s2, nq1, eq1, r1⟩ ⟨T', x, y, rfl, nT, rfl, ex, ey⟩
            obtain ⟨hi', rfl⟩ := ints_at ey
            cases ex
            refine ⟨_, _, rfl, SqT.of upd_same, rfl, ?_⟩
            have s3 : Same H2 (upd H2 T' (.tup [.int (i : Nat), .int s[i]])) := Same.up nT
            have hkH : H2 k = some (.lst (ks.map V.int)) := s2 _ _ (sa _ _ (s1 _ _ hk))
            have e1 := s3 _ _ eq1
            have r3 := r1.same s3
            have hk3 := s3 _ _ hkH
            have s23 := s2.trans s3
            refine ⟨_, _, rfl, _, _, rfl, rfl, ?_⟩
            revert e1 r3 hk3 s23 
            generalize upd H2 T' (.tup [.int (i : Nat), .int s[i]]) = H3
            intro e1 r3 hk3 s23
            refine ⟨_, rfl, k, ks, rfl, SqL.of hk3, fun s' r perm' srt' nr => ?_⟩
            obtain rfl : s' = s := sorted_one (perm'.trans perm.symm) srt' srt
            refine ⟨_, rfl, .inl ⟨rfl, _, SqL.of upd_same⟩, _, rfl, r, _, _, i, V.int s'[i], rfl, rfl, upd_same, by omega, by omega, ?_, ?_, ?_⟩
            · unfold seqIndex?
              rw [List.length_map]
              simp
              omega
            · rw [List.getElem?_map, List.getElem?_eq_getElem hi']
              rfl
            have er : upd (upd H3 r (.lst (s'.map V.int))) r (.lst ((s'.map V.int).eraseIdx i)) r = some (.lst ((s'.eraseIdx i).map V.int)) := by
              rw [upd_same, era_map]
            have s5 : Same H3 (upd (upd H3 r (.lst (s'.map V.int))) r (.lst ((s'.map V.int).eraseIdx i))) := fun b o e => by
              rw [upd_ne (ne_of_none e nr), upd_ne (ne_of_none e nr)]
              exact e
            revert er s5
            generalize upd (upd H3 r (.lst (s'.map V.int))) r (.lst ((s'.map V.int).eraseIdx i)) = H5
            intro er s5
            have hel : (s'.eraseIdx i).length = s'.length - 1 := by
              rw [List.length_eraseIdx, if_pos hi']
            have hol := ord_len s' (by omega) i (by omega)
            have go : ∀ {H6 : Hp} {Q : VK}, Same H5 H6 → firstB s' i = true → (∀ (H' : Hp) (q2 : Addr) (ys : List V), Same H6 H' → H6 q2 = none → H' q2 = some (.lst ys) → RowsAt H' ys (ordL s' (i + 1)) → Q (.ref q2) H') →
                tOp rCat (tVar 1) (tLc (iList K (tCall (spLL n) [] E0 (tCons (tVar 4) tNil))) (gName 5) tYes (tOp (rCatA K) (tTup (tCons (tVar 3) tNil)) (tVar 5)) [5]) [some (.ref k), some (.ref q1), some (.int (i : Nat)), some (.int s'[i]), some (.ref r), none] H6 Q := fun {H6 Q} s6 hf q6 => by
              refine lc_go (s6 _ _ (s5 _ _ e1)) (RowsAt.same (r3.same s5) s6) (s6 _ _ er) (by rw [hel]; omega) (by rw [hel]; omega) (by omega) fun H' q2 ys sx nx ex rx => q6 H' q2 ys sx nx ex ?_
              rw [ord_succ, if_pos hf, ← hel, getD_at hi']
              exact rx
            have s25 := s23.trans s5
            by_cases h0 : i = 0
            · refine ⟨_, rfl, rfl, _, rfl, ?_⟩
              rw [show decide (V.int (i : Nat) = V.int 0) = true from decide_eq_true (by rw [h0]; rfl)]
              refine iteT (iteT (go (Same.refl _) (by unfold firstB; rw [decide_eq_true h0, Bool.true_or]) fun H' q2 ys sx nx ex rx => ?_))
              exact ⟨_, _, _, q2, ys, rfl, s25.trans sx, (s1.trans (sa.trans s25)).free nx, ex, rx⟩
            · refine ⟨_, rfl, rfl, _, rfl, ?_⟩
              rw [show decide (V.int (i : Nat) = V.int 0) = false from decide_eq_false (fun z => h0 (by injection z with z; omega))]
              refine iteF ?_
              refine ⟨_, rfl, k, ks, rfl, SqL.of (s5 _ _ hk3), fun s2' r2 perm2 srt2 nr2 => ?_⟩
              obtain rfl : s2' = s' := sorted_one (perm2.trans perm.symm) srt2 srt
              have s6 : Same H5 (upd H5 r2 (.lst (s2'.map V.int))) := Same.up nr2
              have ev : atI (s2'.map V.int) ((i : Int) - 1) = some (V.int (s2'.getD (i - 1) 0)) := by
                rw [show (i : Int) - 1 = ((i - 1 : Nat) : Int) by omega]
                exact atI_nat (by rw [List.getElem?_map, List.getElem?_eq_getElem (show i - 1 < s2'.length by omega), getD_at (by omega)]; rfl)
              refine ⟨_, rfl, _, _, rfl, rfl, r2, _, _, _, rfl, rfl, SqL.of upd_same, ev, _, rfl, rfl, _, rfl, ?_⟩
              by_cases hf : s2'.getD (i - 1) 0 = s2'[i]
              · rw [show (!decide (V.int (s2'.getD (i - 1) 0) = V.int s2'[i])) = false by rw [hf, decide_eq_true rfl]; rfl]
                refine iteF ⟨_, _, _, q1, xs, rfl, s25.trans s6, nq1, s6 _ _ (s5 _ _ e1), ?_⟩
                have nf : ¬ firstB s2' i = true := by
                  unfold firstB
                  rw [decide_eq_false h0, Bool.false_or, decide_eq_true_eq, getD_at hi', hf]
                  exact fun z => z rfl
                rw [ord_succ, if_neg nf, List.append_nil]
                exact RowsAt.same (r3.same s5) s6
              · rw [show (!decide (V.int (s2'.getD (i - 1) 0) = V.int s2'[i])) = true by rw [decide_eq_false (fun z => hf (by injection z))]; rfl]
                have hy : firstB s2' i = true := by
                  unfold firstB
                  rw [getD_at hi', decide_eq_true hf, Bool.or_true]
                refine iteT (go s6 hy fun H' q2 ys sx nx ex rx => ?_)
                exact ⟨_, _, _, q2, ys, rfl, (s25.trans s6).trans sx, (s1.trans (sa.trans (s25.trans s6))).free nx, ex, rx⟩
          · rintro σ' H2 ⟨x2, x3, x4, q1, xs, rfl, s2, nq1, eq1, r1⟩
            have hs0 : s ≠ [] := fun z => hn (List.length_eq_zero_iff.mp (by rw [← hsl, z]; rfl))
            rw [List.length_map, ord_end srt hs0, hsl, permsL_perm _ perm] at r1
            exact ⟨x2, x3, x4, q1, xs, rfl, s1.trans (sa.trans s2), nq1, eq1, r1⟩
        · rintro σ' H2 ⟨x2, x3, x4, q1, xs, rfl, s2, nq1, eq1, r1⟩
          exact ⟨_, rfl, q H2 q1 xs s2 nq1 eq1 r1⟩
theorem perms_mem : ∀ (n : Nat) (l r : List Int), r ∈ permsL n l → ∀ x ∈ r, x ∈ l
  | 0, _, r, h => fun x hx => by
    rw [List.mem_singleton.mp h] at hx
    cases hx
  | n + 1, l, r, h => fun y hy => by
    obtain ⟨x, hx, h2⟩ := List.mem_flatMap.mp h
    obtain ⟨t, h3, rfl⟩ := List.mem_map.mp h2
    rcases List.mem_cons.mp hy with e | e
    · rw [e]
      exact ascL_mem.mp hx
    · exact List.mem_of_mem_erase (perms_mem n _ t h3 y e)
def spLH : Sp := fun vs H Q _ => ∃ (k w : Nat) (ks : List Int), vs = [.ref k, .int w] ∧ (1 ≤ w ∧ w ≤ 4) ∧ H k = some (.lst (ks.map V.int)) ∧ ks.length ≤ 6 ∧ (∀ n ∈ ks, -1000000000 ≤ n ∧ n ≤ 1000000000) ∧
  ∀ (H' : Hp) (q : Addr) (xs : List V), Same H H' → H q = none → H' q = some (.lst xs) → RowsAt H' xs (allH ks w) → Q (.ref q) H'
theorem ok_lh (T : Tx K mg A) : FnOk P w K mg base CX0 10 A.f__law_heaps A.d__law_heaps ["keys", "wide"] spLH := by
  refine T.F__law_heaps.ok sc__law_heaps (fun vs H Q E h => ?_) (fun cdv B outer s H vs Q E hr h => ?_)
  · obtain ⟨k, w, ks, rfl, _⟩ := h
    rfl
  · obtain ⟨k, w, ks, rfl, hw, hk, h6, hb, q⟩ := h
    have nd := sc__law_heaps.nd
    refine ⟨_, (pss_one (ps_ret (pe_lc (own := [("row", 2)]) (g := gName 2) rfl nd (pi_list (pe_call (ok_ll T 7) (hr.mono (by decide)) (by rfl) T.m__law_lists T.F__law_lists.kp (b_ll T) .nil pass0 (pa_cons (pv 0) pa_nil))) (blkOk_by (own := [("row", 2)]) (N := ["keys", "wide", "row"]) (sc := defScope s__law_heaps) (by decide +kernel)) (fun _ _ _ _ _ => pg_name (i := 2) nd rfl (Or.inl rfl)) (fun _ _ _ _ _ => pts_one (pt_val (pe_call (ok_lis T) (hr.mono (by decide)) (by rfl) T.m__law_is_heap T.F__law_is_heap.kp (b_lis T) .nil pass0 (pa_cons (pv 2) (pa_cons (pv 1) pa_nil))))) (fun _ _ _ _ _ => pv 2)))), ?_⟩
    refine ⟨_, rfl, k, ks, rfl, hk, by omega, h6, fun H1 p ys s1 np ep rp => ?_⟩
    refine ⟨p, rfl, ⟨_, SqL.of ep⟩, fun D nD => ?_⟩
    have hyl : ys.length = (permsL ks.length ks).length := Paired.length rp
    have hp : (permsL ks.length ks).length ≤ 46656 := by
      refine Nat.le_trans (perms_len _ _ h6) ?_
      have : ∀ k, k < 7 → 6 ^ k ≤ 46656 := by decide
      exact this _ (by omega)
    refine lc_it (walk_list (xs := ys)) (fun j H' => AccR H1 D (((permsL ks.length ks).take j).filter fun r => lheap r w) H') (AccR.start nD) (fun j H' _ ac => SqL.of (ac.s _ _ ep)) ?_ ?_
    · rintro j y H2o H2 hj ac ⟨rfl, hy⟩
      obtain ⟨hj2, t, rfl, et⟩ := rp.get hy
      have et2 := ac.s _ _ et
      have hmem := List.getElem_mem hj2
      have hel := perms_el _ _ _ hmem
      refine ⟨rfl, _, rfl, _, rfl, t, w, _, rfl, hw, ⟨.inr et2, by omega, fun x hx => hb x (perms_mem _ _ _ hmem x hx)⟩, fun H3 s3 => ?_⟩
      refine ⟨_, rfl, ?_⟩
      rw [← List.take_append_getElem hj2, List.filter_append]
      have ac3 := ac.same s3
      have hln : (((permsL ks.length ks).take j).filter fun r => lheap r w).length ≤ 46656 := Nat.le_trans (List.length_filter_le _ _) (by rw [List.length_take]; omega)
      by_cases hh : lheap (permsL ks.length ks)[j] w = true
      · rw [hh]
        refine iteT ⟨_, rfl, ?_⟩
        rw [List.filter_cons_of_pos (p := fun r => lheap r w) hh, List.filter_nil]
        exact ac3.push ⟨t, rfl, s3 _ _ et2⟩ (by rw [sizeLine_eq]; omega)
      · rw [Bool.not_eq_true] at hh
        rw [hh]
        refine iteF ?_
        rw [List.filter_cons_of_neg (p := fun r => lheap r w) (by rw [hh]; exact Bool.false_ne_true), List.filter_nil, List.append_nil]
        exact ac3
    · intro H2 ac
      rw [hyl, List.take_length] at ac
      obtain ⟨zs, ez, rz⟩ := ac.a
      have e : (permsL ks.length ks).filter (fun r => lheap r w) = allH ks w := by
        rw [allH_perms]
        refine List.filter_congr fun r hr2 => ?_
        rw [heap_fault_k11, lheap_fault r w hw (by rw [perms_el _ _ _ hr2]; omega)]
      rw [e] at rz
      exact q _ D zs (s1.trans ac.s) (s1.free nD) ez rz
theorem b_lh (T : Tx K mg A) : L2.Binds K A.d__law_heaps ["keys", "wide"] [] := T.F__law_heaps.binds fun _ _ _ _ _ _ us hl => match us, hl with | [_, _], _ => rfl
def fdQ (v0 : V) : List (Str × V) := putF "row" v0 (([] : List (Str × V)))
def AtQ (C : Addr) (H : Hp) (p : Addr) (x0 : List Int) : Prop := ∃ (dx t0 : Addr), H p = some (.ins C dx (fdQ (.ref t0))) ∧ H t0 = some (.tup (x0.map V.int))
theorem AtQ.ext {C : Addr} {H H' : Hp} {p : Addr} {x0 : List Int} (h : AtQ C H p x0) (e : LamX.ExtN H H') : AtQ C H' p x0 := let ⟨dx, t0, h, e0⟩ := h; ⟨dx, t0, e _ _ h (fun _ z => nomatch z), e _ _ e0 (fun _ z => nomatch z)⟩
theorem extN_of {H H' : Hp} (s : Same H H') : ExtN H H' := fun b o e _ => s b o e
theorem AtQ.same {C : Addr} {H H' : Hp} {p : Addr} {x0 : List Int} (h : AtQ C H p x0) (s : Same H H') : AtQ C H' p x0 := h.ext (extN_of s)
def fdV (v0 v1 : V) : List (Str × V) := putF "key" v1 (putF "place" v0 (([] : List (Str × V))))
def AtV (C : Addr) (H : Hp) (p : Addr) (x0 : Int) (x1 : Int) : Prop := ∃ (dx : Addr), H p = some (.ins C dx (fdV (.int x0) (.int x1)))
theorem AtV.ext {C : Addr} {H H' : Hp} {p : Addr} {x0 : Int} {x1 : Int} (h : AtV C H p x0 x1) (e : LamX.ExtN H H') : AtV C H' p x0 x1 := let ⟨dx, h⟩ := h; ⟨dx, e _ _ h (fun _ z => nomatch z)⟩
theorem AtV.same {C : Addr} {H H' : Hp} {p : Addr} {x0 : Int} {x1 : Int} (h : AtV C H p x0 x1) (s : Same H H') : AtV C H' p x0 x1 := h.ext (extN_of s)
/-- what stood, but for what stands at d -/
def But (d : Addr) (H H' : Hp) : Prop := ∀ b o, b ≠ d → H b = some o → H' b = some o
theorem But.of {d : Addr} {H H' : Hp} (s : Same H H') : But d H H' := fun b o _ e => s b o e
theorem But.put {d : Addr} {o : HO} {H : Hp} : But d H (upd H d o) := fun b u n e => by rw [upd_ne n]; exact e
theorem But.trans {d : Addr} {H H1 H2 : Hp} (a : But d H H1) (b : But d H1 H2) : But d H H2 := fun c o n e => b c o n (a c o n e)
/-- the draws: a list of the script and of a number -/
structure DrAt (K : PySem.W.Frag) (H : Hp) (d a : Addr) (ns : List Int) (k : Nat) : Prop where
  l : H d = some (.lst [.ref a, .int k])
  n : a ≠ d ∨ ∀ H', SqL K H' a (ns.map V.int)
  s : SqL K H a (ns.map V.int)
  h : ns.length ≤ 63
theorem DrAt.ext {K : PySem.W.Frag} {H H' : Hp} {d a : Addr} {ns : List Int} {k : Nat} (h : DrAt K H d a ns k) (e : ExtN H H') : DrAt K H' d a ns k := ⟨e _ _ h.l (fun ps z => nomatch z), h.n, e.sqL h.s, h.h⟩
theorem DrAt.same {K : PySem.W.Frag} {H H' : Hp} {d a : Addr} {ns : List Int} {k : Nat} (h : DrAt K H d a ns k) (s : Same H H') : DrAt K H' d a ns k := ⟨s _ _ h.l, h.n, s.seq h.s, h.h⟩
theorem DrAt.start {K : PySem.W.Frag} {H : Hp} {d a : Addr} {ns : List Int} (ha : SqL K H a (ns.map V.int)) (hl : ns.length ≤ 63) (hd : H d = none) : DrAt K (upd H d (.lst [.ref a, .int 0])) d a ns 0 := by
  refine ⟨upd_same, ?_, (Same.up hd).seq ha, hl⟩
  rcases ha with (h | ⟨o, h⟩) | h
  · exact .inl (ne_of_none h hd)
  · exact .inl (ne_of_none h hd)
  · exact .inr fun H' => .inr h
def DueAt (H : Hp) (d : Addr) (r : List Int × List Nat × Nat) : Prop := ∃ t1 t2 : Addr, H d = some (.tup [.ref t1, .ref t2, .int (r.2.2 : Nat)]) ∧ H t1 = some (.tup (r.1.map V.int)) ∧ H t2 = some (.tup (vi r.2.1))
theorem DueAt.same {H H' : Hp} {d : Addr} {r : List Int × List Nat × Nat} (h : DueAt H d r) (s : Same H H') : DueAt H' d r := let ⟨t1, t2, a, b, c⟩ := h; ⟨t1, t2, s _ _ a, s _ _ b, s _ _ c⟩
theorem RowsAt.ext {H H' : Hp} {xs : List V} {ls : List (List Int)} (h : RowsAt H xs ls) (e : ExtN H H') : RowsAt H' xs ls := L2.Paired.mapP h fun _ _ ⟨t, q, z⟩ => ⟨t, q, e _ _ z fun _ y => nomatch y⟩
/-- what a heap, a lesser key and a place must be -/
structure TkOk (H : Hp) (r w : Nat) (ks : List Int) (least : Int) (place : Nat) : Prop where
  hw : 1 ≤ w ∧ w ≤ 4
  row : RowIn H r ks
  fl : faultL ks w = []
  nd : ks.Nodup
  l12 : ks.length < 12
  lb : -1000000000 ≤ least ∧ least ≤ 1000000000
  lt : least < ks.getD 0 0
  pl : place < ks.length
theorem b_arm (T : Tx K mg A) : L2.Binds K A.d__law_arms ["draw"] [] := T.F__law_arms.binds fun _ _ _ _ _ _ us hl => match us, hl with | [_], _ => rfl
theorem b_lout (T : Tx K mg A) : L2.Binds K A.d__law_out ["row", "wide"] [] := T.F__law_out.binds fun _ _ _ _ _ _ us hl => match us, hl with | [_, _], _ => rfl
theorem b_lun (T : Tx K mg A) : L2.Binds K A.d__law_unlike ["draw", "many"] [] := T.F__law_unlike.binds fun _ _ _ _ _ _ us hl => match us, hl with | [_, _], _ => rfl
theorem b_take (T : Tx K mg A) : L2.Binds K A.d__law_take ["draw", "many"] [] := T.F__law_take.binds fun _ _ _ _ _ _ us hl => match us, hl with | [_, _], _ => rfl
def dl (l : List Nat) : List PyData := l.map fun i => PyData.int (i : Nat)
theorem dl_ints (l : List Nat) : dl l = (l.map fun i => ((i : Nat) : Int)).map PyData.int := by unfold dl; rw [List.map_map]; rfl
theorem dl_emp (l : List Nat) : PyData.eqv (.list (dl l)) (.list (dl [])) = decide (l = []) := by
  rw [dl_ints, show dl [] = [] from rfl, emp_eqv]
  cases l <;> simp
theorem dl_shapedL (l : List Nat) : SeqAt.shaped (.list (dl l)) = true := by
  rw [dl_ints]
  exact shaped_ints _
theorem vi_ints (l : List Nat) : vi l = (l.map fun i => ((i : Nat) : Int)).map V.int := by unfold vi; rw [List.map_map]; rfl
theorem vi_dp (K : PySem.W.Frag) (H : Hp) (l : List Nat) : DpAll K H (vi l) (dl l) := by
  rw [vi_ints, dl_ints]
  exact ints_dp _ _ _
theorem dp_lst (K : PySem.W.Frag) {H : Hp} {p : Addr} {l : List Nat} (h : H p = some (.lst (vi l))) : Dp K H (.ref p) (.list (dl l)) := .lst (SqL.of h) (vi_dp _ _ _)
theorem fdQ_row (v0 : V) : (fdQ v0).lookup ("row" : Str) = some v0 := by
  unfold fdQ
  rw [lookup_putF, if_pos rfl]
theorem fdQ_shows (t : V) : (fdQ t).lookup ("shows" : Str) = none := by
  unfold fdQ
  rw [lookup_putF, if_neg (by decide +kernel)]
  rfl
theorem fdV_key (v0 v1 : V) : (fdV v0 v1).lookup ("key" : Str) = some v1 := by
  unfold fdV
  rw [lookup_putF, if_pos rfl]
theorem fdV_place (v0 v1 : V) : (fdV v0 v1).lookup ("place" : Str) = some v0 := by
  unfold fdV
  rw [lookup_putF, if_neg (by decide +kernel), lookup_putF, if_pos rfl]
theorem fdV_shows (a b : V) : (fdV a b).lookup ("shows" : Str) = none := by
  unfold fdV
  rw [lookup_putF, if_neg (by decide +kernel), lookup_putF, if_neg (by decide +kernel)]
  rfl
theorem ints_shT (ks : List Int) : SeqAt.shaped (.tuple (ks.map PyData.int)) = true := by
  have h := shaped_ints ks
  unfold SeqAt.shaped at h ⊢
  simp only [PyData.canLay0, PyData.depth] at h ⊢
  exact h
theorem kb_hm (T : Tx K mg A) : ∃ mv : List Value, KBn K A.d_how_many ["many", "arms"] 1 ["arms"] (fun us ws => us ++ (mv ++ ws)) (fun vs zs => vs ++ zs) := by
  obtain ⟨mv, h⟩ := T.F_how_many.kbinds0 (ps := ["many", "arms"]) 1 ["arms"] [] (fun us mv ws => us ++ (mv ++ ws)) (by simp) (by simp) (fun r1 r2 r3 => r1.append (r2.append r3))
    (fun D doc pm an cdv ct us mv ws h1 h2 h3 => by
      match us, mv, ws, h1, h2, h3 with
      | [a], [], [c], _, _, _ => rfl)
  exact ⟨mv, h⟩
theorem kb_ut (T : Tx K mg A) : ∃ mv : List Value, KBn K A.d_undo_take ["row", "least", "place", "arms"] 3 ["arms"] (fun us ws => us ++ (mv ++ ws)) (fun vs zs => vs ++ zs) := by
  obtain ⟨mv, h⟩ := T.F_undo_take.kbinds0 (ps := ["row", "least", "place", "arms"]) 3 ["arms"] [] (fun us mv ws => us ++ (mv ++ ws)) (by simp) (by simp) (fun r1 r2 r3 => r1.append (r2.append r3))
    (fun D doc pm an cdv ct us mv ws h1 h2 h3 => by
      match us, mv, ws, h1, h2, h3 with
      | [a, b, c], [], [e], _, _, _ => rfl)
  exact ⟨mv, h⟩
theorem kbsh (T : Tx K mg A) : ∃ mv : List Value, KBn K A.d_q_shows ["self", "row", "least", "place", "arms"] 4 ["arms"] (fun us ws => us ++ (mv ++ ws)) (fun vs zs => vs ++ zs) := by
  obtain ⟨mv, h⟩ := T.F_q_shows.kbinds0 (ps := ["self", "row", "least", "place", "arms"]) 4 ["arms"] [] (fun us mv ws => us ++ (mv ++ ws)) (by simp) (by simp) (fun r1 r2 r3 => r1.append (r2.append r3))
    (fun D doc pm an cdv ct us mv ws h1 h2 h3 => by
      match us, mv, ws, h1, h2, h3 with
      | [a, b, c, d], [], [e], _, _, _ => rfl)
  exact ⟨mv, h⟩
end
end Tw

set_option Elab.async false
set_option linter.all false
set_option maxRecDepth 100000
set_option maxHeartbeats 2000000
namespace Tw
open PySem PySem.Spec PyProof.Rows L2
section
variable {P : Program} {w : World} {K : PySem.W.Frag} {mg : Str → Option Value} {base : Heap} {A : Ad}
open LamX (ExtN Tabs TabS)
abbrev Pr := Int × Str
def keys (ps : List Pr) : List Int := ps.map (·.1)
theorem kosh (T : Tx K mg A) : ∃ mv : List Value, KBn K A.d_v_shows ["self", "row", "least", "place", "arms"] 4 ["arms"] (fun us ws => us ++ (mv ++ ws)) (fun vs zs => vs ++ zs) := by
  obtain ⟨mv, h⟩ := T.F_v_shows.kbinds0 (ps := ["self", "row", "least", "place", "arms"]) 4 ["arms"] [] (fun us mv ws => us ++ (mv ++ ws)) (by simp) (by simp) (fun r1 r2 r3 => r1.append (r2.append r3))
    (fun D doc pm an cdv ct us mv ws h1 h2 h3 => by
      match us, mv, ws, h1, h2, h3 with
      | [a, b, c, d], [], [e], _, _, _ => rfl)
  exact ⟨mv, h⟩
theorem b_pick (T : Tx K mg A) : L2.Binds K A.d__law_pick ["draw", "things"] [] := T.F__law_pick.binds fun _ _ _ _ _ _ us hl => match us, hl with | [_, _], _ => rfl
theorem cut63 (xs : List V) (h : xs.length ≤ 63) : cutV xs none (some 63) = xs := by
  unfold cutV
  rw [HT.sIx_none, show (63 : Int) = ((63 : Nat) : Int) from rfl, HT.sIx_nat, List.drop_zero, Nat.min_eq_right h, Nat.sub_zero, List.take_length]
def spNum (K : PySem.W.Frag) : Sp := fun vs H Q _ => ∃ (a : Addr) (ns : List Int) (i : Nat), vs = [.ref a, .int i] ∧ SqL K H a (ns.map V.int) ∧ ns.length ≤ 63 ∧ i < 1000000 ∧ ∀ H' r, Same H H' → Q (.int r) H'
theorem ok_num (T : Tx K mg A) : FnOk P w K mg base CX0 2 A.f__law_number A.d__law_number ["script", "index"] (spNum K) := by
  refine T.F__law_number.ok sc__law_number (fun vs H Q E h => ?_) (fun cdv B outer s H vs Q E hr h => ?_)
  · obtain ⟨a, ns, i, rfl, _⟩ := h
    rfl
  · obtain ⟨a, ns, i, rfl, ha, hl, hi, q⟩ := h
    have nd := sc__law_number.nd
    have hu := hr.units
    refine ⟨_, C8.pss_cut (ps_set (i := 2) nd rfl (Or.inl rfl) (pe_ifExp (pt_cmpR (op_neD hu) (pv 0) (pe_lst pa_nil) (nomark _)) (pe_slice sl_list (pv 0) po_none (po_some pe_int)) (pe_lst (pa_cons pe_int pa_nil))))
      (pss_cons (ps_set (i := 3) nd rfl (Or.inl rfl) (pe_op op_add
        (pe_ix ix_list (pv 2) (pe_op op_mod (pe_callTy call_int1 (by rfl) T.g_int (by decide +kernel) (pa_cons (pv 1) pa_nil)) (pe_callB call_len_seq (by rfl) T.g_len PySem.boot_len (pa_cons (pv 2) pa_nil))) (fun _ _ => rfl))
        (pe_op op_mul pe_int (pe_op op_fdivN (pv 1) (pe_callB call_len_seq (by rfl) T.g_len PySem.boot_len (pa_cons (pv 2) pa_nil))))))
      (pss_cons (ps_par (i := 4) (j := 5) rfl nd rfl rfl (by decide) rfl rfl (pa_cons (pe_op op_mod (pe_callTy call_int1 (by rfl) T.g_int (by decide +kernel) (pa_cons (pv 3) pa_nil)) pe_int)
          (pa_cons (pe_op op_mod (pe_callTy call_int1 (by rfl) T.g_int (by decide +kernel) (pa_cons (pe_op op_fdivN (pv 3) pe_int) pa_nil)) pe_int) pa_nil)) rfl)
      (pss_cons (ps_set (i := 6) nd rfl (Or.inl rfl) (pe_op op_mod (pe_callTy call_int1 (by rfl) T.g_int (by decide +kernel) (pa_cons (pe_callB (cr_sum rfl) (by rfl) T.g_sum (by decide +kernel) (pa_cons (pv 2) pa_nil)) pa_nil)) pe_int))
      (pss_cons (ps_set (i := 7) nd rfl (Or.inl rfl) (pe_op op_mod (pe_callTy call_int1 (by rfl) T.g_int (by decide +kernel) (pa_cons
          (pe_op op_add (pe_op op_add (pe_op op_mul (pe_op op_add (pv 4) (pe_op op_mul pe_int (pv 1))) pe_int) (pe_op op_mul pe_int (pv 5))) (pv 6)) pa_nil)) pe_int))
      (pss_one (ps_ret (pe_op op_add (pe_op op_mul (pe_op op_mod (pe_callTy call_int1 (by rfl) T.g_int (by decide +kernel) (pa_cons
          (pe_op op_mul (pv 7) (pe_op op_add (pe_op op_add (pv 7) (pe_op op_mul pe_int (pv 1))) pe_int)) pa_nil)) pe_int) pe_int) (pv 5)))))))), ?_⟩
    refine ⟨fun σ H1 => ∃ (c : Addr) (cs : List Int), σ = [some (.ref a), some (.int i), some (.ref c), none, none, none, none, none] ∧ Same H H1 ∧ H1 c = some (.lst (cs.map V.int)) ∧ 0 < cs.length ∧ cs.length ≤ 63, ?_, ?_⟩
    · refine ⟨_, rfl, Nat.zero_le _, fun l0 hl0 => ?_⟩
      have hs0 : Same H (upd H l0 (.lst [])) := Same.up hl0
      refine ⟨.list (ns.map PyData.int), .list [], .lst (hs0.seq ha) (ints_dp _ _ _), .lst (SqL.of upd_same) .nil, ?_, rfl, _, rfl, ?_⟩
      · exact shaped_ints _
      · rw [emp_eqv]
        by_cases e : ns = []
        · rw [decide_eq_true e]
          refine iteF ⟨by show 1 ≤ sizeLine; decide, fun l1 hl1 => ⟨l1, [5], rfl, hs0.trans (Same.up hl1), upd_same, by decide, by decide⟩⟩
        · rw [decide_eq_false e]
          refine iteT ⟨_, rfl, _, rfl, a, _, rfl, hs0.seq ha, fun l1 hl1 => ⟨l1, ns, rfl, hs0.trans (Same.up hl1), ?_, ?_, hl⟩⟩
          · rw [upd_same]
            exact congrArg (fun z => some (HO.lst z)) (cut63 _ (by rw [List.length_map]; exact hl))
          · exact List.length_pos_iff.mpr e
    · rintro σ H1 ⟨c, cs, rfl, s1, hc, h0, h63⟩
      have hq := SqL.of (K := K) hc
      have hL : ((cs.map V.int).length : Int) = (cs.length : Int) := by rw [List.length_map]
      have hm0 : 0 ≤ (i : Int) % (cs.length : Int) := Int.emod_nonneg _ (by omega)
      have hm1 : (i : Int) % (cs.length : Int) < (cs.length : Int) := Int.emod_lt_of_pos _ (by omega)
      obtain ⟨j, hj⟩ : ∃ j : Nat, (i : Int) % (cs.length : Int) = (j : Int) := ⟨_, (Int.toNat_of_nonneg hm0).symm⟩
      have hjl : j < cs.length := by omega
      have hat : atI (cs.map V.int) ((i : Int) % ((cs.map V.int).length : Int)) = some (V.int cs[j]) := by
        rw [hL, hj]
        exact atI_nat (by rw [List.getElem?_map, List.getElem?_eq_getElem hjl]; rfl)
      refine ⟨_, rfl, _, rfl, .inl ⟨_, rfl, _, rfl, c, _, rfl, .inl hq, _, _, rfl, rfl, ?_, c, _, _, _, rfl, rfl, hq, hat, _, rfl, _, rfl, c, _, rfl, .inl hq, _, _, rfl, rfl, ⟨?_, ?_⟩, _, _, rfl, rfl, .inl ⟨by decide, by decide⟩, _, _, rfl, rfl, ?_⟩⟩
      · show (0 : Int) < ((cs.map V.int).length : Int)
        omega
      · omega
      · omega
      · refine ⟨_, rfl, .inl ⟨_, rfl, _, _, rfl, rfl, by show (0 : Int) < 1000003; decide, ?_⟩⟩
        refine ⟨_, rfl, _, _, rfl, rfl, ⟨by decide, by decide⟩, .inl ⟨_, rfl, _, _, rfl, rfl, by show (0 : Int) < 999983; decide, _, _, rfl, ?_⟩⟩
        refine ⟨_, rfl, c, cs, rfl, hq, .inl ⟨_, rfl, _, _, rfl, rfl, by show (0 : Int) < 65521; decide, ?_⟩⟩
        refine ⟨_, rfl, _, rfl, _, _, rfl, rfl, .inl ⟨by decide, by decide⟩, _, _, rfl, rfl, _, _, rfl, rfl, .inr ⟨by decide, by decide⟩, ?_⟩
        refine ⟨_, rfl, _, _, rfl, rfl, .inl ⟨by decide, by decide⟩, _, _, rfl, rfl, _, rfl, _, _, rfl, rfl, .inl ⟨_, rfl, _, _, rfl, rfl, by show (0 : Int) < 2147483647; decide, ?_⟩⟩
        refine ⟨_, rfl, _, rfl, _, rfl, _, _, rfl, rfl, .inl ⟨by decide, by decide⟩, _, _, rfl, rfl, _, _, rfl, rfl, _, _, rfl, rfl, .inl ⟨?_, ?_⟩, .inl ⟨_, rfl, _, _, rfl, rfl, by show (0 : Int) < 2147483629; decide, ?_⟩⟩
        · have := Int.emod_nonneg ((((cs[j] + 13 * Int.fdiv (i : Int) ((cs.map V.int).length : Int)) % 1000003 + 977 * (i : Int)) * 48271 + 31 * (Int.fdiv (cs[j] + 13 * Int.fdiv (i : Int) ((cs.map V.int).length : Int)) 1000003 % 999983)) + cs.sum % 65521) (show (2147483647 : Int) ≠ 0 by decide)
          omega
        · have := Int.emod_lt_of_pos ((((cs[j] + 13 * Int.fdiv (i : Int) ((cs.map V.int).length : Int)) % 1000003 + 977 * (i : Int)) * 48271 + 31 * (Int.fdiv (cs[j] + 13 * Int.fdiv (i : Int) ((cs.map V.int).length : Int)) 1000003 % 999983)) + cs.sum % 65521) (show (0 : Int) < 2147483647 by decide)
          omega
        · exact ⟨_, _, rfl, rfl, .inr ⟨by decide, by decide⟩, _, rfl, _, _, rfl, rfl, q _ _ s1⟩
theorem b_num (T : Tx K mg A) : L2.Binds K A.d__law_number ["script", "index"] [] := T.F__law_number.binds fun _ _ _ _ _ _ us hl => match us, hl with | [_, _], _ => rfl
theorem But.seq {d a : Addr} {H H' : Hp} {xs : List V} (s : But d H H') (h : SqL K H a xs) (n : a ≠ d ∨ ∀ H', SqL K H' a xs) : SqL K H' a xs := by
  rcases n with n | n
  rotate_left
  · exact n _
  rcases h with (h | ⟨o, h⟩) | h
  · exact .inl (.inl (s _ _ n h))
  · exact .inl (.inr ⟨o, s _ _ n h⟩)
  · exact .inr h
def spTake (K : PySem.W.Frag) : Sp := fun vs H Q _ => ∃ (d a : Addr) (ns : List Int) (k m : Nat), vs = [.ref d, .int m] ∧ DrAt K H d a ns k ∧ k < 100000 ∧ 0 < m ∧
  ∀ (H' : Hp) (r : Nat), But d H H' → DrAt K H' d a ns (k + 1) → r < m → Q (.int r) H'
theorem ok_take (T : Tx K mg A) : FnOk P w K mg base CX0 3 A.f__law_take A.d__law_take ["draw", "many"] (spTake K) := by
  refine T.F__law_take.ok sc__law_take (fun vs H Q E h => ?_) (fun cdv B outer s H vs Q E hr h => ?_)
  · obtain ⟨d, a, ns, k, m, rfl, _⟩ := h
    rfl
  · obtain ⟨d, a, ns, k, m, rfl, ⟨hl, hn, hs, h63⟩, hk, hm, q⟩ := h
    refine ⟨_, pss_cons (ps_asg (pe_op op_add (pe_ix ix_list (pv 0) pe_int (fun _ _ => rfl)) pe_int) (pg_sub (pv 0) pe_int set_list))
      (pss_one (ps_ret (pe_op op_mod (pe_callTy call_int1 (by rfl) T.g_int (by decide +kernel) (pa_cons
        (pe_call (ok_num T) hr (by rfl) T.m__law_number T.F__law_number.kp (b_num T) .nil pass0 (pa_cons (pe_ix ix_list (pv 0) pe_int (fun _ _ => rfl))
          (pa_cons (pe_callTy call_int1 (by rfl) T.g_int (by decide +kernel) (pa_cons (pe_ix ix_list (pv 0) pe_int (fun _ _ => rfl)) pa_nil)) pa_nil))) pa_nil)) (pv 1)))), ?_⟩
    have at1 : atI [V.ref a, V.int (k : Nat)] 1 = some (V.int (k : Nat)) := rfl
    refine ⟨_, rfl, d, _, _, _, rfl, rfl, SqL.of hl, at1, _, _, rfl, rfl, _, rfl, d, _, _, 1, rfl, rfl, hl, rfl, ?_⟩
    have e1 : upd H d (.lst (([V.ref a, V.int (k : Nat)]).set 1 (V.int ((k : Int) + 1)))) d = some (.lst [V.ref a, V.int ((k + 1 : Nat) : Int)]) := by
      rw [upd_same]
      rfl
    have b1 : But d H (upd H d (.lst (([V.ref a, V.int (k : Nat)]).set 1 (V.int ((k : Int) + 1))))) := But.put
    have s1 := b1.seq hs hn
    refine ⟨_, rfl, d, _, _, _, rfl, rfl, SqL.of e1, rfl, _, rfl, d, _, _, _, rfl, rfl, SqL.of e1, rfl, .inl ⟨_, rfl, a, ns, k + 1, rfl, s1, h63, by omega, fun H2 r s2 => ?_⟩⟩
    refine .inl ⟨_, rfl, _, rfl, _, _, rfl, rfl, by show (0 : Int) < (m : Nat); omega, ?_⟩
    have m0 := Int.emod_nonneg r (show ((m : Nat) : Int) ≠ 0 by omega)
    have m1 := Int.emod_lt_of_pos r (show (0 : Int) < (m : Nat) by omega)
    obtain ⟨z, hz⟩ : ∃ z : Nat, r % (m : Nat) = (z : Int) := ⟨_, (Int.toNat_of_nonneg m0).symm⟩
    have h := q H2 z (b1.trans (But.of s2)) ⟨s2 _ _ e1, hn, s2.seq s1, h63⟩ (by omega)
    rw [← hz] at h
    exact h
def spPick (K : PySem.W.Frag) : Sp := fun vs H Q _ => ∃ (d a b : Addr) (ns zs : List Int) (k : Nat), vs = [.ref d, .ref b] ∧ DrAt K H d a ns k ∧ k < 50000 ∧ H b = some (.lst (zs.map V.int)) ∧ b ≠ d ∧ 0 < zs.length ∧
  ∀ (H' : Hp) (z : Int), But d H H' → DrAt K H' d a ns (k + 1) → z ∈ zs → Q (.int z) H'
theorem ok_pick (T : Tx K mg A) : FnOk P w K mg base CX0 4 A.f__law_pick A.d__law_pick ["draw", "things"] (spPick K) := by
  refine T.F__law_pick.ok sc__law_pick (fun vs H Q E h => ?_) (fun cdv B outer s H vs Q E hr h => ?_)
  · obtain ⟨d, a, b, ns, zs, k, rfl, _⟩ := h
    rfl
  · obtain ⟨d, a, b, ns, zs, k, rfl, dr, hk, hb, hbd, hz, q⟩ := h
    refine ⟨_, pss_one (ps_ret (pe_ix ix_list (pv 1) (pe_call (ok_take T) hr (by rfl) T.m__law_take T.F__law_take.kp (b_take T) .nil pass0 (pa_cons (pv 0) (pa_cons (pe_callB call_len_seq (by rfl) T.g_len PySem.boot_len (pa_cons (pv 1) pa_nil)) pa_nil))) (fun _ _ => rfl))), ?_⟩
    refine ⟨_, rfl, _, rfl, _, rfl, b, _, rfl, .inl (SqL.of hb), d, a, ns, k, (zs.map V.int).length, rfl, dr, by omega, by rw [List.length_map]; exact hz, fun H1 r b1 dr1 hr1 => ?_⟩
    rw [List.length_map] at hr1
    have e : (zs.map V.int)[r]? = some (V.int zs[r]) := by rw [List.getElem?_map, List.getElem?_eq_getElem hr1]; rfl
    exact ⟨b, _, _, _, rfl, rfl, SqL.of (b1 _ _ hbd hb), atI_nat e, q H1 _ b1 dr1 (List.getElem_mem hr1)⟩
def spArm (K : PySem.W.Frag) : Sp := fun vs H Q _ => ∃ (d a : Addr) (ns : List Int) (k : Nat), vs = [.ref d] ∧ DrAt K H d a ns k ∧ k < 50000 ∧
  ∀ (H' : Hp) (w : Nat), But d H H' → DrAt K H' d a ns (k + 1) → (1 ≤ w ∧ w ≤ 4) → Q (.int w) H'
theorem ok_arm (T : Tx K mg A) : FnOk P w K mg base CX0 5 A.f__law_arms A.d__law_arms ["draw"] (spArm K) := by
  refine T.F__law_arms.ok sc__law_arms (fun vs H Q E h => ?_) (fun cdv B outer s H vs Q E hr h => ?_)
  · obtain ⟨d, a, ns, k, rfl, _⟩ := h
    rfl
  · obtain ⟨d, a, ns, k, rfl, dr, hk, q⟩ := h
    refine ⟨_, pss_one (ps_ret (pe_call (ok_pick T) hr (by rfl) T.m__law_pick T.F__law_pick.kp (b_pick T) .nil pass0 (pa_cons (pv 0) (pa_cons (pe_lst (pa_cons pe_int (pa_cons pe_int (pa_cons pe_int (pa_cons pe_int (pa_cons pe_int (pa_cons pe_int pa_nil))))))) pa_nil)))), ?_⟩
    refine ⟨_, rfl, by show 6 ≤ sizeLine; decide, fun b hb => ?_⟩
    have hbd : b ≠ d := fun z => by rw [z, dr.l] at hb; cases hb
    refine ⟨d, a, b, ns, [2, 2, 2, 3, 1, 4], k, rfl, dr.same (Same.up hb), hk, upd_same, hbd, by decide, fun H1 z b1 dr1 hz => ?_⟩
    have h4 : 1 ≤ z ∧ z ≤ 4 := by
      simp only [List.mem_cons, List.not_mem_nil, or_false] at hz
      omega
    obtain ⟨w, rfl⟩ : ∃ w : Nat, z = (w : Int) := ⟨z.toNat, by omega⟩
    exact q H1 w ((But.of (Same.up hb)).trans b1) dr1 ⟨by omega, by omega⟩
theorem ints_all : ∀ ks ms : List Int, PyData.eqvAll (ks.map PyData.int) (ms.map PyData.int) = decide (ks = ms)
  | [], [] => by simp [PyData.eqvAll]
  | [], m :: ms => by simp [PyData.eqvAll]
  | k :: ks, [] => by simp [PyData.eqvAll]
  | k :: ks, m :: ms => by
    simp only [List.map_cons, PyData.eqvAll, ints_all ks ms, PyData.eqv]
    by_cases h1 : k = m
    · by_cases h2 : ks = ms <;> simp [h1, h2]
    · simp [h1]
theorem ints_eqv (ks ms : List Int) : PyData.eqv (.tuple (ks.map PyData.int)) (.tuple (ms.map PyData.int)) = decide (ks = ms) := by
  rw [← ints_all]
  simp [PyData.eqv]
theorem ints_tup (K : PySem.W.Frag) {H : Hp} {a : Addr} {ks : List Int} (h : H a = some (.tup (ks.map V.int))) : Dp K H (.ref a) (.tuple (ks.map PyData.int)) := .tup (SqT.of h) (ints_dp K H ks)
theorem int_deq (a b : Int) : decide (V.int a = V.int b) = decide (a = b) := by
  by_cases h : a = b
  · rw [decide_eq_true h, decide_eq_true (by rw [h])]
  · rw [decide_eq_false h, decide_eq_false fun z => h (by injection z)]
def wz (l : List Nat) : List Int := l.map fun i => ((i : Nat) : Int)
theorem last_at {xs : List V} {y : V} : atI (xs ++ [y]) (-1) = some y := by
  unfold atI ixN
  rw [if_neg (by omega), if_pos (by simp; omega), show ((-1 : Int) + ((xs ++ [y]).length : Nat)).toNat = xs.length by rw [List.length_append, List.length_singleton]; omega]
  simp
theorem last_wz {l : List Nat} (h : l ≠ []) : atI ((wz l).map V.int) (-1) = some (V.int ((lastW l : Nat) : Int)) := by
  obtain ⟨i, y, rfl⟩ : ∃ i y, l = i ++ [y] := ⟨l.dropLast, l.getLast h, (List.dropLast_concat_getLast h).symm⟩
  have e : (wz (i ++ [y])).map V.int = (wz i).map V.int ++ [V.int (y : Nat)] := by unfold wz; rw [List.map_append, List.map_append]; rfl
  have e2 : lastW (i ++ [y]) = y := by unfold lastW; simp
  rw [e, e2]
  exact last_at
theorem Sq.ext {H H' : Hp} {a : Addr} {xs : List V} (h : Sq H a xs) (e : ExtN H H') : Sq H' a xs := h.elim (fun x => .inl (e _ _ x (fun ps z => nomatch z))) fun x => .inr (e _ _ x (fun ps z => nomatch z))
theorem RowIn.ext {H H' : Hp} {a : Addr} {ns : List Int} (h : RowIn H a ns) (e : ExtN H H') : RowIn H' a ns := ⟨h.1.ext e, h.2⟩
theorem TreeAt.ext {C : Addr} {H H' : Hp} {p n w : Nat} (h : TreeAt C H p n w) (e : ExtN H H') : TreeAt C H' p n w :=
  ⟨let ⟨dx, t, a, b⟩ := h.ob; ⟨dx, t, e _ _ a (fun ps z => nomatch z), e _ _ b (fun ps z => nomatch z)⟩, h.hn, h.hw⟩
theorem TkOk.ext {H H' : Hp} {r w : Nat} {ks : List Int} {least : Int} {place : Nat} (h : TkOk H r w ks least place) (e : ExtN H H') : TkOk H' r w ks least place :=
  ⟨h.hw, ⟨h.row.1.imp (fun z => e _ _ z fun _ y => nomatch y) (fun z => e _ _ z fun _ y => nomatch y), h.row.2⟩, h.fl, h.nd, h.l12, h.lb, h.lt, h.pl⟩
theorem b_cf (T : Tx K mg A) : L2.Binds K A.d_check_filled ["heap"] [] := T.F_check_filled.binds fun _ _ _ _ _ _ us hl => match us, hl with | [_], _ => rfl
theorem b_ck (T : Tx K mg A) : L2.Binds K A.d_check_key ["key"] [] := T.F_check_key.binds fun _ _ _ _ _ _ us hl => match us, hl with | [_], _ => rfl
def spCf : Sp := fun vs H Q _ => ∃ (t : Nat) (xs : List V), vs = [.ref t] ∧ H t = some (.tup xs) ∧ xs ≠ [] ∧ Q .non H
theorem ok_cf (T : Tx K mg A) : FnOk P w K mg base CX0 2 A.f_check_filled A.d_check_filled ["heap"] spCf := by
  refine T.F_check_filled.ok sc_check_filled (fun vs H Q E h => ?_) (fun cdv B outer s H vs Q E hr h => ?_)
  · obtain ⟨t, xs, rfl, _⟩ := h
    rfl
  · obtain ⟨t, xs, rfl, ht, hn, q⟩ := h
    refine ⟨_, (pss_one (ps_if (pt_not (pt_truth (pv 0) (fun _ => rfl))) (pss_one ps_never) pss_nil)), ?_⟩
    refine ⟨_, rfl, !xs.isEmpty, .inr (.inl ⟨_, SqT.of ht, rfl⟩), ?_⟩
    cases xs with
    | nil => exact absurd rfl hn
    | cons a b => exact iteF q
def spCk : Sp := fun vs H Q _ => ∃ i : Int, vs = [.int i] ∧ (-1000000000 ≤ i ∧ i ≤ 1000000000) ∧ Q .non H
theorem ok_ck (T : Tx K mg A) : FnOk P w K mg base CX0 4 A.f_check_key A.d_check_key ["key"] spCk := by
  refine T.F_check_key.ok sc_check_key (fun vs H Q E h => ?_) (fun cdv B outer s H vs Q E hr h => ?_)
  · obtain ⟨i, rfl, _⟩ := h
    rfl
  · obtain ⟨i, rfl, hi, q⟩ := h
    refine ⟨_, (pss_one (ps_if (pt_not (pt_val (pe_call (ok_key T) (hr.mono (by decide)) (by rfl) T.m_is_key T.F_is_key.kp (b_key T) .nil pass0 (pa_cons (pv 0) pa_nil)))) (pss_one ps_never) pss_nil)), ?_⟩
    refine ⟨_, rfl, i, rfl, _, rfl, ?_⟩
    rw [decide_eq_true hi]
    exact iteF q
def spHa : Sp := fun vs H Q _ => ∃ (r w place : Nat) (least : Int) (ks : List Int), vs = [.ref r, .int least, .int place, .int w] ∧ TkOk H r w ks least place ∧ ∀ H' q, Same H H' → H' q = some (.tup (ks.map V.int)) → Q (.ref q) H'
theorem ok_ha (T : Tx K mg A) : FnOk P w K mg base CX0 11 A.f_heap_after A.d_heap_after ["row", "least", "place", "arms"] spHa := by
  refine T.F_heap_after.ok sc_heap_after (fun vs H Q E h => ?_) (fun cdv B outer s H vs Q E hr h => ?_)
  · obtain ⟨r, w, place, least, ks, rfl, _⟩ := h
    rfl
  · obtain ⟨r, w, place, least, ks, rfl, h, q⟩ := h
    have nd := sc_heap_after.nd
    have hpl := h.pl
    have hlt := h.lt
    have hne : ks ≠ [] := fun z => by rw [z] at hpl; simp at hpl
    refine ⟨_, (pss_cons (ps_set (i := 4) nd rfl (Or.inl rfl) (pe_call (ok_hwr T) (hr.mono (by decide)) (by rfl) T.m_heap_with_room T.F_heap_with_room.kp (b_hwr T) .nil pass0 (pa_cons (pv 0) (pa_cons (pv 3) pa_nil))))
      (pss_cons (ps_expr (pe_call (ok_cf T) (hr.mono (by decide)) (by rfl) T.m_check_filled T.F_check_filled.kp (b_cf T) .nil pass0 (pa_cons (pv 4) pa_nil)))
      (pss_cons (ps_expr (pe_call (ok_ck T) (hr.mono (by decide)) (by rfl) T.m_check_key T.F_check_key.kp (b_ck T) .nil pass0 (pa_cons (pv 1) pa_nil)))
      (pss_cons (ps_if (pt_cmpR op_ge (pv 1) (pe_ix (r := rIx K) ix_seq (pv 4) pe_int (fun _ _ => rfl)) (nomark _)) (pss_one ps_never) pss_nil)
      (pss_cons (ps_expr (pe_call (ok_cp T) (hr.mono (by decide)) (by rfl) T.m_check_place T.F_check_place.kp (b_cp T) .nil pass0 (pa_cons (pv 2) (pa_cons (pe_callB call_len_seq (by rfl) T.g_len PySem.boot_len (pa_cons (pv 4) pa_nil)) pa_nil))))
      (pss_one (ps_ret (pv 4)))))))), ?_⟩
    refine ⟨_, rfl, _, rfl, r, w, ks, rfl, h.hw, h.row, h.fl, h.nd, h.l12, fun H1 t s1 e1 => ?_⟩
    refine ⟨_, rfl, t, _, rfl, e1, fun z => hne (List.map_eq_nil_iff.mp z), ?_⟩
    refine ⟨_, rfl, least, rfl, h.lb, ?_⟩
    refine ⟨_, rfl, _, rfl, .inr (.inl ⟨t, _, _, _, rfl, rfl, SqT.of e1, (key_at (p := 0) (by omega) : atI (ks.map V.int) ((0 : Nat) : Int) = _), ?_⟩)⟩
    refine ⟨_, _, rfl, rfl, _, rfl, ?_⟩
    rw [decide_eq_false (show ¬ least ≥ keyAt ks 0 by unfold keyAt; omega)]
    refine iteF ⟨_, rfl, _, rfl, t, _, rfl, .inr (SqT.of e1), _, _, rfl, ⟨by omega, by rw [List.length_map]; omega⟩, ?_⟩
    exact ⟨_, rfl, q _ t s1 e1⟩
theorem b_ha (T : Tx K mg A) : L2.Binds K A.d_heap_after ["row", "least", "place", "arms"] [] := T.F_heap_after.binds fun _ _ _ _ _ _ us hl => match us, hl with | [_, _, _, _], _ => rfl
theorem down_way (n w : Nat) : ∀ f ks p way lk, way ≠ [] → (goDown n w f ks p way lk).2.1 ≠ []
  | 0, ks, p, way, lk, h => h
  | f + 1, ks, p, way, lk, h => by
    unfold goDown
    split
    · exact h
    · split
      · exact down_way n w f _ _ _ _ (by simp)
      · exact h
theorem kb_ish (T : Tx K mg A) : ∃ mv : List Value, KBn K A.d_is_heap ["row", "arms"] 1 ["arms"] (fun us ws => us ++ (mv ++ ws)) (fun vs zs => vs ++ zs) := by
  obtain ⟨mv, h⟩ := T.F_is_heap.kbinds0 (ps := ["row", "arms"]) 1 ["arms"] [] (fun us mv ws => us ++ (mv ++ ws)) (by simp) (by simp) (fun r1 r2 r3 => r1.append (r2.append r3))
    (fun D doc pm an cdv ct us mv ws h1 h2 h3 => by
      match us, mv, ws, h1, h2, h3 with
      | [a], [], [c], _, _, _ => rfl)
  exact ⟨mv, h⟩
theorem kb_tk (T : Tx K mg A) : ∃ mv : List Value, KBn K A.d_take ["row", "arms"] 1 ["arms"] (fun us ws => us ++ (mv ++ ws)) (fun vs zs => vs ++ zs) := by
  obtain ⟨mv, h⟩ := T.F_take.kbinds0 (ps := ["row", "arms"]) 1 ["arms"] [] (fun us mv ws => us ++ (mv ++ ws)) (by simp) (by simp) (fun r1 r2 r3 => r1.append (r2.append r3))
    (fun D doc pm an cdv ct us mv ws h1 h2 h3 => by
      match us, mv, ws, h1, h2, h3 with
      | [a], [], [c], _, _, _ => rfl)
  exact ⟨mv, h⟩
theorem kih (T : Tx K mg A) : ∃ mv : List Value, KBn K A.d_is_heap ["row", "arms"] 1 ["arms"] (fun us ws => us ++ (mv ++ ws)) (fun vs zs => vs ++ zs) := by
  obtain ⟨mv, h⟩ := T.F_is_heap.kbinds0 (ps := ["row", "arms"]) 1 ["arms"] [] (fun us mv ws => us ++ (mv ++ ws)) (by simp) (by simp) (fun r1 r2 r3 => r1.append (r2.append r3))
    (fun D doc pm an cdv ct us mv ws h1 h2 h3 => by
      match us, mv, ws, h1, h2, h3 with
      | [a], [], [c], _, _, _ => rfl)
  exact ⟨mv, h⟩
def spIsH : Sp := fun vs H Q _ => ∃ (a w : Nat) (ns : List Int), vs = [.ref a, .int w] ∧ (1 ≤ w ∧ w ≤ 4) ∧ RowIn H a ns ∧ ∀ H', Same H H' → Q (.bl (decide (faultL ns w = []))) H'
theorem ok_ish (T : Tx K mg A) : FnOk P w K mg base CX0 8 A.f_is_heap A.d_is_heap ["row", "arms"] spIsH := by
  obtain ⟨mo, ko⟩ := kb_fau T
  refine T.F_is_heap.ok sc_is_heap (fun vs H Q E h => ?_) (fun cdv B outer s H vs Q E hr h => ?_)
  · obtain ⟨a, w, ns, rfl, _⟩ := h
    rfl
  · obtain ⟨a, w, ns, rfl, hw, hrow, q⟩ := h
    refine ⟨_, PSs.nox (pss_one (ps_ret (pe_notT (pe_callN (ok_fau T) hr (by rfl) T.m_faults T.F_faults.kp ko pass0 (pa_cons (pv 0) pa_nil) (pk_cons (pv 1) pk_nil))))), ?_⟩
    refine ⟨_, rfl, _, rfl, rfl, rfl, a, w, ns, rfl, hw, hrow, fun H1 r s1 r0 hr1 => ?_⟩
    refine ⟨!(vi (faultL ns w)).isEmpty, .inl ⟨_, SqL.of hr1, rfl⟩, ?_⟩
    have e : (!(!(vi (faultL ns w)).isEmpty)) = decide (faultL ns w = []) := by
      rw [Bool.not_not]
      unfold vi
      cases faultL ns w with
      | nil => rfl
      | cons x l => rfl
    rw [e]
    exact q _ s1
def zf (t1 t2 lk : Nat) : List (Str × V) := putF "looks" (.int lk) (putF "way" (.ref t2) (putF "row" (.ref t1) []))
/-- a Sift stands at p -/
def SiftAt (C : Addr) (H : Hp) (p : Addr) (ks ws : List Int) (lk : Nat) : Prop := ∃ (dx t1 t2 : Addr), H p = some (.ins C dx (zf t1 t2 lk)) ∧ H t1 = some (.tup (ks.map V.int)) ∧ H t2 = some (.tup (ws.map V.int))
theorem SiftAt.ext {C : Addr} {H H' : Hp} {p : Addr} {ks ws : List Int} {lk : Nat} (h : SiftAt C H p ks ws lk) (e : ∀ b o, H b = some o → (∀ ps, o ≠ .tbl ps) → H' b = some o) : SiftAt C H' p ks ws lk := by
  obtain ⟨dx, t1, t2, a, b, c⟩ := h
  exact ⟨dx, t1, t2, e _ _ a (fun ps z => nomatch z), e _ _ b (fun ps z => nomatch z), e _ _ c (fun ps z => nomatch z)⟩
theorem tabs_upd {T : List (Addr × Str)} {H : Hp} {D : Addr} {xs : List V} {o : HO} (t : Tabs T H) (h : H D = some (.lst xs)) : Tabs T (upd H D o) := fun p hp => by
  obtain ⟨ps, h1, h2, h3⟩ := t p hp
  refine ⟨ps, by rw [upd_ne (ne_of h1 h (by intro z; cases z))]; exact h1, h2, fun pos cv hc => ?_⟩
  obtain ⟨c, e1, e2⟩ := h3 pos cv hc
  exact ⟨c, e1, by rw [upd_ne (ne_of e2 h (by intro z; unfold LamX.CodeO at z; cases z))]; exact e2⟩
/-- two lists of one's own, where code may be made -/
structure TwoE (T : List (Addr × Str)) (H : Hp) (D W : Addr) (xs ys : List V) (H' : Hp) : Prop where
  e : ExtN H H'
  t : Tabs T H'
  d : H' D = some (.lst xs)
  w : H' W = some (.lst ys)
  nD : H D = Option.none
  nW : H W = Option.none
  ne : D ≠ W
section
variable {T : List (Addr × Str)} {H H' H2 : Hp} {D W : Addr} {xs ys zs : List V}
theorem TwoE.setD (h : TwoE T H D W xs ys H') : TwoE T H D W zs ys (upd H' D (.lst zs)) :=
  ⟨fun b o e n => by rw [upd_ne (ne_of_none e h.nD)]; exact h.e _ _ e n, tabs_upd h.t h.d, upd_same, by rw [upd_ne h.ne.symm]; exact h.w, h.nD, h.nW, h.ne⟩
theorem TwoE.setW (h : TwoE T H D W xs ys H') : TwoE T H D W xs zs (upd H' W (.lst zs)) :=
  ⟨fun b o e n => by rw [upd_ne (ne_of_none e h.nW)]; exact h.e _ _ e n, tabs_upd h.t h.w, by rw [upd_ne h.ne]; exact h.d, upd_same, h.nD, h.nW, h.ne⟩
theorem TwoE.same (h : TwoE T H D W xs ys H') (s : Same H' H2) : TwoE T H D W xs ys H2 := ⟨h.e.trans (extN_of s), h.t.ext s, s _ _ h.d, s _ _ h.w, h.nD, h.nW, h.ne⟩
theorem TwoE.ext (h : TwoE T H D W xs ys H') (e : ExtN H' H2) (t : Tabs T H2) : TwoE T H D W xs ys H2 := ⟨h.e.trans e, t, e _ _ h.d (fun ps z => nomatch z), e _ _ h.w (fun ps z => nomatch z), h.nD, h.nW, h.ne⟩
end
theorem new_up {C x dx : Addr} {H : Hp} (nx : H x = none) (ndx : H dx = none) (nex : dx ≠ x) : Same H (upd (upd H dx (.own x)) x (.ins C dx [])) :=
  (Same.up ndx).trans (Same.up (by rw [upd_ne nex.symm]; exact nx))
theorem cut_mid (ks : List Int) (h : 2 ≤ ks.length) : cutV (ks.map V.int) (some 1) (some (-1)) = ((ks.drop 1).take (ks.length - 2)).map V.int ∧ ¬ (HT.sIx (ks.map V.int).length 0 (some 1) = 0 ∧ HT.sIx (ks.map V.int).length (ks.map V.int).length (some (-1)) = (ks.map V.int).length) := by
  have e : HT.sIx (ks.map V.int).length 0 (some 1) = 1 := by
    have := HT.sIx_nat (ks.map V.int).length 0 1
    rw [List.length_map] at this ⊢
    rw [show (some 1 : Option Int) = some ((1 : Nat) : Int) from rfl, this]
    omega
  have e2 : HT.sIx (ks.map V.int).length (ks.map V.int).length (some (-1)) = ks.length - 1 := by
    unfold HT.sIx
    simp
    try omega
  refine ⟨?_, fun z => ?_⟩
  · unfold cutV
    rw [e, e2, ← List.map_drop, ← List.map_take, show ks.length - 1 - 1 = ks.length - 2 by omega]
  · rw [e] at z
    omega
theorem SiftAt.same {C : Addr} {H H' : Hp} {p : Addr} {ks ws : List Int} {lk : Nat} (h : SiftAt C H p ks ws lk) (s : Same H H') : SiftAt C H' p ks ws lk := h.ext fun b o e _ => s b o e
def spZi (C : Addr) : Sp := fun vs H Q _ => ∃ (p dx a b lk : Nat) (ks ws : List Int), vs = [.ref p, .ref a, .ref b, .int lk] ∧ H p = some (.ins C dx []) ∧ Sq H a (ks.map V.int) ∧ Sq H b (ws.map V.int) ∧ 
  ∀ (H' : Hp), (∀ b o, H b = some o → b ≠ p → H' b = some o) → SiftAt C H' p ks ws lk → Q .non H'
theorem ok_zi (T : Tx K mg A) : FnOk P w K mg base CX0 2 A.f_z___init__ A.d_z___init__ ["self", "row", "way", "looks"] (spZi A.CS) := by
  refine T.F_z___init__.ok sc_z___init__ (fun vs H Q E h => ?_) (fun cdv B outer s H vs Q E hr h => ?_)
  · obtain ⟨p, dx, a, b, lk, ks, ws, rfl, _⟩ := h
    rfl
  · obtain ⟨p, dx, a, b, lk, ks, ws, rfl, hp, ha, hb, q⟩ := h
    refine ⟨_, C8.pss_cut (ps_fld (pv 0) (pe_callTy call_tuple_of (by rfl) T.g_tuple (by decide +kernel) (pa_cons (pv 1) pa_nil)) rfl)
      (C8.pss_cut (ps_fld (pv 0) (pe_callTy call_tuple_of (by rfl) T.g_tuple (by decide +kernel) (pa_cons (pv 2) pa_nil)) rfl)
      (pss_one (ps_fld (pv 0) (pv 3) rfl))), ?_⟩
    have npa : p ≠ a := fun z => by rcases ha with h | h <;> rw [← z, hp] at h <;> cases h
    have npb : p ≠ b := fun z => by rcases hb with h | h <;> rw [← z, hp] at h <;> cases h
    refine ⟨fun σ H' => ∃ t1 : Addr, σ = L2.start ["self", "row", "way", "looks"] [.ref p, .ref a, .ref b, .int lk] ∧ (∀ c o, H c = some o → c ≠ p → H' c = some o) ∧ H' p = some (.ins A.CS dx (putF "row" (.ref t1) [])) ∧ H' t1 = some (.tup (ks.map V.int)) ∧ t1 ≠ p, ?_, ?_⟩
    · have go : ∀ (H1 : Hp) (t1 : Addr), Same H H1 → H1 t1 = some (.tup (ks.map V.int)) → ∃ t2 : Addr, (L2.start ["self", "row", "way", "looks"] [.ref p, .ref a, .ref b, .int lk]) = L2.start ["self", "row", "way", "looks"] [.ref p, .ref a, .ref b, .int lk] ∧ (∀ c o, H c = some o → c ≠ p → upd H1 p (.ins A.CS dx (putF "row" (.ref t1) [])) c = some o) ∧ upd H1 p (.ins A.CS dx (putF "row" (.ref t1) [])) p = some (.ins A.CS dx (putF "row" (.ref t2) [])) ∧ upd H1 p (.ins A.CS dx (putF "row" (.ref t1) [])) t2 = some (.tup (ks.map V.int)) ∧ t2 ≠ p := fun H1 t1 s1 e1 => by
        have n1 : t1 ≠ p := fun z => by rw [z, s1 _ _ hp] at e1; cases e1
        exact ⟨t1, rfl, fun c o e n => by rw [upd_ne n]; exact s1 _ _ e, upd_same, by rw [upd_ne n1]; exact e1, n1⟩
      rcases ha with h | h
      · exact ⟨_, rfl, a, _, rfl, .inl ⟨SqL.of h, fun t1 ht1 => ⟨_, rfl, p, A.CS, dx, _, rfl, (Same.up ht1) _ _ hp, T.cTS, T.nRow, (by show 0 < 1000; decide), go _ t1 (Same.up ht1) upd_same⟩⟩⟩
      · exact ⟨_, rfl, a, _, rfl, .inr ⟨SqT.of h, _, rfl, p, A.CS, dx, _, rfl, hp, T.cTS, T.nRow, (by show 0 < 1000; decide), go H a (Same.refl _) h⟩⟩
    rintro σ H1 ⟨t1, rfl, k1, hp1, e1, n1⟩
    have hb1 : Sq H1 b (ws.map V.int) := hb.elim (fun h => .inl (k1 _ _ h npb.symm)) fun h => .inr (k1 _ _ h npb.symm)
    refine ⟨fun σ H' => ∃ t2 : Addr, σ = L2.start ["self", "row", "way", "looks"] [.ref p, .ref a, .ref b, .int lk] ∧ (∀ c o, H1 c = some o → c ≠ p → H' c = some o) ∧ H' p = some (.ins A.CS dx (putF "way" (.ref t2) (putF "row" (.ref t1) []))) ∧ H' t2 = some (.tup (ws.map V.int)) ∧ t2 ≠ p, ?_, ?_⟩
    · have go : ∀ (H2 : Hp) (t2 : Addr), Same H1 H2 → H2 t2 = some (.tup (ws.map V.int)) → ∃ t3 : Addr, (L2.start ["self", "row", "way", "looks"] [.ref p, .ref a, .ref b, .int lk]) = L2.start ["self", "row", "way", "looks"] [.ref p, .ref a, .ref b, .int lk] ∧ (∀ c o, H1 c = some o → c ≠ p → upd H2 p (.ins A.CS dx (putF "way" (.ref t2) (putF "row" (.ref t1) []))) c = some o) ∧ upd H2 p (.ins A.CS dx (putF "way" (.ref t2) (putF "row" (.ref t1) []))) p = some (.ins A.CS dx (putF "way" (.ref t3) (putF "row" (.ref t1) []))) ∧ upd H2 p (.ins A.CS dx (putF "way" (.ref t2) (putF "row" (.ref t1) []))) t3 = some (.tup (ws.map V.int)) ∧ t3 ≠ p := fun H2 t2 s2 e2 => by
        have n2 : t2 ≠ p := fun z => by rw [z, s2 _ _ hp1] at e2; cases e2
        exact ⟨t2, rfl, fun c o e n => by rw [upd_ne n]; exact s2 _ _ e, upd_same, by rw [upd_ne n2]; exact e2, n2⟩
      rcases hb1 with h | h
      · exact ⟨_, rfl, b, _, rfl, .inl ⟨SqL.of h, fun t2 ht2 => ⟨_, rfl, p, A.CS, dx, _, rfl, (Same.up ht2) _ _ hp1, T.cTS, T.nWay, (by show 1 < 1000; decide), go _ t2 (Same.up ht2) upd_same⟩⟩⟩
      · exact ⟨_, rfl, b, _, rfl, .inr ⟨SqT.of h, _, rfl, p, A.CS, dx, _, rfl, hp1, T.cTS, T.nWay, (by show 1 < 1000; decide), go H1 b (Same.refl _) h⟩⟩
    rintro σ H2 ⟨t2, rfl, k2, hp2, e2, n2⟩
    refine ⟨_, rfl, _, rfl, p, A.CS, dx, _, rfl, hp2, T.cTS, T.nLooks, (by simp only [putF, m1, if_false]; show 2 < 1000; decide), ?_⟩
    refine q _ (fun c o e hc => ?_) ⟨dx, t1, t2, upd_same, ?_, ?_⟩
    · rw [upd_ne hc]
      exact k2 _ _ (k1 _ _ e hc) hc
    · rw [upd_ne n1]
      exact k2 _ _ e1 n1
    · rw [upd_ne n2]
      exact e2
theorem b_zi (T : Tx K mg A) : L2.Binds K A.d_z___init__ ["self", "row", "way", "looks"] [] := T.F_z___init__.binds fun _ _ _ _ _ _ us hl => match us, hl with | [_, _, _, _], _ => rfl
theorem ixN_nat {n p : Nat} (h : p < n) : ixN n (p : Int) = some p := by
  unfold ixN
  rw [if_pos (by omega), if_pos (by omega), Int.toNat_natCast]
theorem set_int (ks : List Int) (p : Nat) (v : Int) : (ks.map V.int).set p (V.int v) = (ks.set p v).map V.int := (List.map_set ..).symm
theorem vi_wz (l : List Nat) : vi l = (wz l).map V.int := vi_ints l
end
end Tw

set_option Elab.async false
set_option linter.all false
set_option maxRecDepth 100000
set_option maxHeartbeats 2000000
namespace Tw
open PySem PySem.Spec PyProof.Rows L2
section
variable {P : Program} {w : World} {K : PySem.W.Frag} {mg : Str → Option Value} {base : Heap} {A : Ad}
open LamX (ExtN Tabs TabS)
theorem kid_len : ∀ n, n < 13 → ∀ w, w < 5 → ∀ i, i < n → 1 ≤ w → (kidL n w i).length ≤ 4 := by decide +kernel
theorem b_gi (T : Tx K mg A) : L2.Binds K A.d_t___getitem__ ["self", "place"] [] := T.F_t___getitem__.binds fun _ _ _ _ _ _ us hl => match us, hl with | [_, _], _ => rfl
/-- the children of a place, as the program cuts them -/
def kids (n w i : Nat) : List V := cutV (pl n) (some ((i : Int) * (w : Int) + 1)) (some ((i : Int) * (w : Int) + 1 + (w : Int)))
def spGi (C : Addr) : Sp := fun vs H Q _ => ∃ (p n w i : Nat), vs = [.ref p, .int i] ∧ TreeAt C H p n w ∧ i < n ∧ ∀ H' q, Same H H' → H' q = some (.tup (kids n w i)) → Q (.ref q) H'
theorem ok_gi (T : Tx K mg A) : FnOk P w K mg base CX0 4 A.f_t___getitem__ A.d_t___getitem__ ["self", "place"] (spGi A.C) := by
  refine T.F_t___getitem__.ok sc_t___getitem__ (fun vs H Q E h => ?_) (fun cdv B outer s H vs Q E hr h => ?_)
  · obtain ⟨p, n, w, i, rfl, _⟩ := h
    rfl
  · obtain ⟨p, n, w, i, rfl, t, hi, q⟩ := h
    obtain ⟨dx, l, h1, h2⟩ := t.ob
    refine ⟨_, pss_cons (ps_expr (pe_call (ok_cp T) hr (by rfl) T.m_check_place T.F_check_place.kp (b_cp T) .nil pass0 (pa_cons (pv 1) (pa_cons (pe_fld (pv 0) rfl) pa_nil))))
      (pss_cons (ps_set (i := 2) sc_t___getitem__.nd rfl (Or.inl rfl) (pe_op op_add (pe_op op_mul (pv 1) (pe_fld (pv 0) rfl)) pe_int))
      (pss_one (ps_ret (pe_slice sl_tup (pe_fld (pv 0) rfl) (po_some (pv 2)) (po_some (pe_op op_add (pv 2) (pe_fld (pv 0) rfl))))))), ?_⟩
    refine ⟨_, rfl, _, rfl, p, A.C, dx, _, _, rfl, h1, T.cT, T.nMany, tf_many _ _ _, _, _, rfl, ⟨by omega, by omega⟩, ?_⟩
    refine ⟨_, rfl, _, rfl, p, A.C, dx, _, _, rfl, h1, T.cT, T.nArms, tf_arms _ _ _, _, _, rfl, rfl, .inl ⟨by have := t.hn; omega, by have := t.hn; omega⟩, _, _, rfl, rfl, ?_⟩
    refine ⟨_, rfl, p, A.C, dx, _, _, rfl, h1, T.cT, T.nPl, tf_pl _ _ _, ?_⟩
    refine ⟨_, rfl, _, rfl, _, rfl, _, rfl, p, A.C, dx, _, _, rfl, h1, T.cT, T.nArms, tf_arms _ _ _, _, _, rfl, rfl, _, rfl, ?_⟩
    refine ⟨l, pl n, rfl, SqT.of h2, fun z => ?_, fun r hr0 => q _ r (Same.up hr0) upd_same⟩
    have z1 := z.1
    rw [pl_len, show ((i : Int) * (w : Int) + 1) = ((i * w + 1 : Nat) : Int) by push_cast; rfl, HT.sIx_nat] at z1
    omega
def kidsN (n w i : Nat) : List Nat := ((List.range n).drop (min (i * w + 1) n)).take (min (i * w + 1 + w) n - min (i * w + 1) n)
theorem kids_same : ∀ n, n < 13 → ∀ w, w < 5 → ∀ i, i < n → 1 ≤ w → kidsN n w i = kidL n w i := by decide +kernel
theorem kids_eq (n w i : Nat) : kids n w i = vi (kidsN n w i) := by
  unfold kids cutV kidsN
  rw [pl_len, show ((i : Int) * (w : Int) + 1) = ((i * w + 1 : Nat) : Int) by push_cast; rfl, show (((i * w + 1 : Nat) : Int) + (w : Int)) = ((i * w + 1 + w : Nat) : Int) by push_cast; rfl, HT.sIx_nat, HT.sIx_nat]
  unfold vi pl
  rw [List.map_take, List.map_drop]
/-- least_child -/
def spLc (K : PySem.W.Frag) (A : Ad) : Sp := fun vs H Q _ => ∃ (l a : Addr) (ks ns : List Int), vs = [.ref l, .ref a] ∧ SqL K H l (ks.map V.int) ∧ SqT K H a (ns.map V.int) ∧ 0 < ns.length ∧ (∀ n ∈ ns, 0 ≤ n ∧ n < ks.length) ∧ LamX.Tabs (TT A) H ∧
  ∀ (m : Int) (H' : Hp), LamX.ExtN H H' → LamX.Tabs (TT A) H' → Cl.LeastAt ks ns m → Q (.int m) H'
theorem ok_lc (T : Tx K mg A) (TB : LamX.TabB base mg A.c_least_child A.P_least_child) : FnOk P w K mg base CX0 2 A.f_least_child A.d_least_child ["keys", "children"] (spLc K A) := by
  obtain ⟨oc, od, kV, doc, pm, an, ct, osl, ed, lk, hcd⟩ := T.L_least_child
  rw [ed] at lk ⊢
  refine fn_of lk hcd sc_least_child (fun vs H Q E h => ?_) (fun B outer s H vs Q E hr h => ?_)
  · obtain ⟨l, a, ks, ns, rfl, _⟩ := h
    rfl
  · obtain ⟨l, a, ks, ns, rfl, hl, ha, hne, hin, hT, q⟩ := h
    refine ⟨_, PSs.nox (pss_one (ps_ret (Cl.pe_minlam (T := TT A) (x := "place") (y := "keys") (j := 0) (by rfl) T.g_min (pv 1) hr.depth hr.hd TB rfl (List.mem_singleton.mpr rfl) (fun p hp _ => by rw [List.mem_singleton.mp hp]; rfl)
      ⟨rfl, rfl, rfl, by decide +kernel, by decide +kernel, by decide +kernel⟩ (show (defScope s_least_child).names.lookup ("keys" : Str) = some NameKind.cell by decide +kernel) (by decide +kernel) rfl rfl (fun _ _ _ _ _ _ => rfl)))), ?_⟩
    exact ⟨_, rfl, a, l, ns, ks, rfl, ha, rfl, hl, hne, hin, hT, fun m H2 e t lm => q m H2 e t lm⟩
theorem b_lc (T : Tx K mg A) : L2.Binds K A.d_least_child ["keys", "children"] [] := T.F_least_child.binds fun _ _ _ _ _ _ us hl => match us, hl with | [_, _], _ => rfl
theorem wz_get (l : List Nat) (i : Nat) : (wz l).getD i 0 = ((l.getD i 0 : Nat) : Int) := by
  unfold wz
  rw [List.getD_eq_getElem?_getD, List.getD_eq_getElem?_getD, List.getElem?_map]
  cases l[i]? <;> rfl
theorem least_wz {ks : List Int} {l : List Nat} {m : Int} (h : Cl.LeastAt ks (wz l) m) : m = ((leastC ks l : Nat) : Int) := by
  obtain ⟨j, fl, e⟩ := h
  rw [wz_get] at e
  have hl : (wz l).length = l.length := by unfold wz; rw [List.length_map]
  have ef : (fun i => ks.getD ((wz l).getD i 0).toNat 0) = fun i => keyAt ks (l.getD i 0) := by
    funext i
    rw [wz_get, Int.toNat_natCast]
    rfl
  rw [hl, ef] at fl
  rw [e, least_of fl]
def muW (σ : L2.St) (H : Hp) : Nat := match σ[6]? with
  | some (some (V.ref W)) => (match H W with | some (.lst xs) => 40 - xs.length | _ => 0)
  | _ => 0
theorem muW_at {σ : L2.St} {H : Hp} {W : Addr} {xs : List V} (h : σ[6]? = some (some (V.ref W))) (hw : H W = some (.lst xs)) : muW σ H = 40 - xs.length := by
  unfold muW
  rw [h]
  show (match H W with | some (.lst xs) => 40 - xs.length | _ => 0) = _
  rw [hw]
def resSift (C : Addr) (H : Hp) (q : Addr) (r : List Int × List Nat × Nat) : Prop := SiftAt C H q r.1 (wz r.2.1) r.2.2
def spDown (A : Ad) : Sp := fun vs H Q _ => ∃ (r p w : Nat) (ks : List Int), vs = [.ref r, .int p, .int w] ∧ (1 ≤ w ∧ w ≤ 4) ∧ RowIn H r ks ∧ p < ks.length ∧ Tabs (TT A) H ∧
  ∀ (H' : Hp) (q : Addr), ExtN H H' → Tabs (TT A) H' → resSift A.CS H' q (goDown ks.length w 20 ks p [p] 0) → Q (.ref q) H'
theorem ok_down (T : Tx K mg A) (TB : LamX.TabB base mg A.c_least_child A.P_least_child) : FnOk P w K mg base CX0 7 A.f_sift_down A.d_sift_down ["row", "place", "arms"] (spDown A) := by
  obtain ⟨mo, ko⟩ := kb_of T
  refine T.F_sift_down.ok sc_sift_down (fun vs H Q E h => ?_) (fun cdv B outer s H vs Q E hr h => ?_)
  · obtain ⟨r, p, w, ks, rfl, _⟩ := h
    rfl
  · obtain ⟨r, p, w, ks, rfl, hw, hrow, hp, hT, q⟩ := h
    have nd := sc_sift_down.nd
    refine ⟨_, PSs.nox (pss_cons (ps_set (i := 3) nd rfl (Or.inl rfl) (pe_cmethK (pe_glob (v := .ref A.C) (by rfl) T.mC (relR _)) T.cr T.cof (ok_of T) hr ko pass0 (pa_cons (pv 0) pa_nil) (pk_cons (pv 2) pk_nil)))
      (pss_cons (ps_set (i := 4) nd rfl (Or.inl rfl) (pe_gi T.D_t___getitem__ (ok_gi T) (hr.mono (by decide)) (b_gi T) pass0 (pv 3) (pv 1)))
      (pss_cons (ps_set (i := 5) nd rfl (Or.inl rfl) (pe_callTy call_list_of (by rfl) T.g_list (by decide +kernel) (pa_cons (pv 0) pa_nil)))
      (pss_cons (ps_set (i := 6) nd rfl (Or.inl rfl) (pe_lst (pa_cons (pv 1) pa_nil)))
      (pss_cons (ps_set (i := 7) nd rfl (Or.inl rfl) pe_int)
      (C8.pss_cut (ps_while PassesOwn.never (pt_truth (pv 4) (fun _ => rfl)) (pss_cons (ps_set (i := 8) nd rfl (Or.inl rfl) (pe_ix ix_list (pv 6) (pe_un un_neg pe_int) (fun _ _ => rfl)))
      (pss_cons (ps_aug (i := 7) nd rfl (Or.inl rfl) (pe_callB call_len_seq (by rfl) T.g_len PySem.boot_len (pa_cons (pv 4) pa_nil)) ip_add)
      (pss_cons (ps_set (i := 9) nd rfl (Or.inl rfl) (pe_call (ok_lc T TB) (hr.mono (by decide)) (by rfl) T.m_least_child T.F_least_child.kp (b_lc T) .nil pass0 (pa_cons (pv 5) (pa_cons (pv 4) pa_nil))))
      (pss_cons (ps_if (pt_cmpR op_le (pe_ix ix_list (pv 5) (pv 8) (fun _ _ => rfl)) (pe_ix ix_list (pv 5) (pv 9) (fun _ _ => rfl)) (nomark _)) (pss_one ps_break) pss_nil)
      (pss_cons (ps_asg (pe_tup (pa_cons (pe_ix ix_list (pv 5) (pv 9) (fun _ _ => rfl)) (pa_cons (pe_ix ix_list (pv 5) (pv 8) (fun _ _ => rfl)) pa_nil))) (pg_tup rfl (pgs_cons (pg_sub (pv 5) (pv 8) set_list) (pgs_cons (pg_sub (pv 5) (pv 9) set_list) pgs_nil))))
      (pss_cons (ps_expr (pe_bm PySem.F.plainAttrs_list PySem.F.slot_list_append PySem.F.type_list_append mt_append (pv 6) (pa_cons (pv 9) pa_nil)))
      (pss_one (ps_set (i := 4) nd rfl (Or.inl rfl) (pe_gi T.D_t___getitem__ (ok_gi T) (hr.mono (by decide)) (b_gi T) pass0 (pv 3) (pv 9)))))))))))
      (pss_one (ps_ret (pe_make T.mkCS (ok_zi T) (hr.mono (by decide)) (by rfl) T.mCS (b_zi T) .nil pass0 (pa_cons (pv 5) (pa_cons (pv 6) (pa_cons (pv 7) pa_nil)))))))))))), ?_⟩
    refine ⟨rfl, _, rfl, _, rfl, rfl, rfl, r, w, ks, rfl, hw, hrow.1, hrow.2.1, hrow.2.2, fun H1 tr s1 p0 t1 => ?_⟩
    obtain ⟨dx, l, h1, h2⟩ := t1.ob
    have hk12 := hrow.2.1
    refine ⟨_, rfl, _, rfl, tr, dx, _, rfl, h1, tr, ks.length, w, p, rfl, t1, hp, fun H2 ch s2 hch => ?_⟩
    rw [kids_eq, kids_same ks.length (by omega) w (by omega) p hp hw.1] at hch
    have s12 : Same H H2 := s1.trans s2
    refine ⟨_, rfl, r, _, rfl, (hrow.1.same s12).len, fun D nD => ?_⟩
    refine ⟨_, rfl, by show 1 ≤ sizeLine; decide, fun W nW => ?_⟩
    have nDW : D ≠ W := ne_of_none (upd_same (H := H2) (a := D)) nW
    have s24 : Same H2 (upd (upd H2 D (.lst (ks.map V.int))) W (.lst [V.int (p : Nat)])) := (Same.up nD).trans (Same.up nW)
    have two0 : TwoE (TT A) H2 D W (ks.map V.int) (vi ([] ++ [p])) (upd (upd H2 D (.lst (ks.map V.int))) W (.lst [V.int (p : Nat)])) :=
      ⟨extN_of s24, (hT.ext s12).ext s24, by rw [upd_ne nDW]; exact upd_same, upd_same, nD, (Same.up nD).free nW, nDW⟩
    have hch4 := s24 _ _ hch
    generalize upd (upd H2 D (.lst (ks.map V.int))) W (.lst [V.int (p : Nat)]) = H4 at two0 hch4
    have t2 := t1.same s2
    generalize en : ks.length = n at *
    refine ⟨fun σ' H' => ∃ (x4 x8 x9 : Option V), σ' = [some (.ref r), some (.int p), some (.int w), some (.ref tr), x4, some (.ref D), some (.ref W), some (.int ((goDown n w 20 ks p [p] 0).2.2 : Nat)), x8, x9] ∧ TwoE (TT A) H2 D W ((goDown n w 20 ks p [p] 0).1.map V.int) (vi (goDown n w 20 ks p [p] 0).2.1) H', ?_, ?_⟩
    · refine while_by (fun σ' H' => ∃ (f : Nat) (ks' : List Int) (cur : Nat) (way : List Nat) (lk : Nat) (x8 x9 : Option V) (ch : Addr), σ' = [some (.ref r), some (.int p), some (.int w), some (.ref tr), some (.ref ch), some (.ref D), some (.ref W), some (.int lk), x8, x9] ∧
        TwoE (TT A) H2 D W (ks'.map V.int) (vi (way ++ [cur])) H' ∧ H' ch = some (.tup (vi (kidL n w cur))) ∧ cur < n ∧ ks'.length = n ∧ way.length + f = 20 ∧ n - cur < f ∧ goDown n w 20 ks p [p] 0 = goDown n w f ks' cur (way ++ [cur]) lk) muW ?_ ?_ ?_
      · exact ⟨20, ks, p, [], 0, none, none, ch, rfl, two0, hch4, hp, en, rfl, by omega, rfl⟩
      · rintro σ' H' ⟨f, ks', cur, way, lk, x8, x9, ch', rfl, two, hch', hcur, hkl, hwf, hf, eg⟩
        refine ⟨_, rfl, !(vi (kidL n w cur)).isEmpty, .inr (.inl ⟨_, SqT.of hch', rfl⟩), ?_⟩
        obtain ⟨f, rfl⟩ : ∃ f', f = f' + 1 := ⟨f - 1, by omega⟩
        have hlast : atI (vi (way ++ [cur])) (-1) = some (V.int ((cur : Nat) : Int)) := by
          rw [vi_app]
          exact last_at
        have hmu0 : muW [some (.ref r), some (.int p), some (.int w), some (.ref tr), some (.ref ch'), some (.ref D), some (.ref W), some (.int lk), x8, x9] H' = 40 - (way.length + 1) := by
          rw [muW_at rfl two.w, vi_len, List.length_append]
          rfl
        by_cases hk0 : kidL n w cur = []
        · rw [hk0]
          refine iteF ?_
          rw [goDown_leaf hk0] at eg
          rw [eg]
          exact ⟨_, _, _, rfl, two⟩
        · have e0 : (!(vi (kidL n w cur)).isEmpty) = true := by
            cases e : kidL n w cur with
            | nil => exact absurd e hk0
            | cons a b => rfl
          rw [e0]
          refine iteT ?_
          have hmem := least_mem (ks := ks') hk0
          have hk4 := kid_len n (by omega) w (by omega) cur hcur hw.1
          obtain ⟨hb1, hb2⟩ := kid_in hw.1 hmem
          refine ⟨_, rfl, _, rfl, W, _, _, _, rfl, rfl, SqL.of two.w, hlast, ?_⟩
          refine ⟨_, rfl, _, rfl, ch', _, rfl, .inr (SqT.of hch'), _, _, rfl, rfl, ?_⟩
          refine ⟨_, rfl, _, rfl, D, ch', ks', wz (kidL n w cur), rfl, SqL.of two.d, by rw [← vi_wz]; exact SqT.of hch', ?_, ?_, two.t, fun m H5 e5 t5 hm => ?_⟩
          · unfold wz
            rw [List.length_map]
            exact List.length_pos_iff.mpr hk0
          · intro z hz
            unfold wz at hz
            obtain ⟨j, hj, rfl⟩ := List.mem_map.mp hz
            have := kid_in hw.1 hj
            omega
          have em := least_wz hm
          subst em
          generalize ebb : leastC ks' (kidL n w cur) = b at *
          have two5 := two.ext e5 t5
          have hch5 := e5 _ _ hch' (fun ps z => nomatch z)
          have hc1 : cur < ks'.length := by omega
          have hc2 : b < ks'.length := by omega
          rw [vi_len]
          refine ⟨_, rfl, _, rfl, D, _, _, _, rfl, rfl, SqL.of two5.d, key_at hc1, _, rfl, _, rfl, D, _, _, _, rfl, rfl, SqL.of two5.d, key_at hc2, _, _, rfl, rfl, _, rfl, ?_⟩
          by_cases hlt : keyAt ks' b < keyAt ks' cur
          · rw [decide_eq_false (show ¬ keyAt ks' cur ≤ keyAt ks' b by omega)]
            refine iteF ?_
            rw [goDown_go hk0 ebb hlt] at eg
            refine ⟨_, rfl, _, rfl, D, _, _, _, rfl, rfl, SqL.of two5.d, key_at hc2, _, rfl, _, rfl, D, _, _, _, rfl, rfl, SqL.of two5.d, key_at hc1, by show 2 ≤ sizeLine; decide, fun t ht => ?_⟩
            have two2 := two5.same (Same.up (o := .tup [V.int (keyAt ks' b), V.int (keyAt ks' cur)]) ht)
            have et : upd H5 t (.tup [V.int (keyAt ks' b), V.int (keyAt ks' cur)]) t = some (.tup [V.int (keyAt ks' b), V.int (keyAt ks' cur)]) := upd_same
            generalize upd H5 t (.tup [V.int (keyAt ks' b), V.int (keyAt ks' cur)]) = G at two2 et
            refine ⟨t, _, rfl, SqT.of et, rfl, _, _, rfl, _, rfl, _, rfl, D, _, _, cur, rfl, rfl, two2.d, ixN_nat (by rw [List.length_map]; exact hc1), ?_⟩
            rw [set_int]
            have two3 : TwoE (TT A) H2 D W ((ks'.set cur (keyAt ks' b)).map V.int) (vi (way ++ [cur])) (upd G D (.lst ((ks'.set cur (keyAt ks' b)).map V.int))) := two2.setD
            generalize upd G D (.lst ((ks'.set cur (keyAt ks' b)).map V.int)) = G2 at two3
            refine ⟨_, _, rfl, _, rfl, _, rfl, D, _, _, b, rfl, rfl, two3.d, ixN_nat (by rw [List.length_map, List.length_set]; exact hc2), ?_⟩
            rw [set_int, show (ks'.set cur (keyAt ks' b)).set b (keyAt ks' cur) = swp ks' cur b from rfl]
            have two4 : TwoE (TT A) H2 D W ((swp ks' cur b).map V.int) (vi (way ++ [cur])) (upd G2 D (.lst ((swp ks' cur b).map V.int))) := two3.setD
            generalize upd G2 D (.lst ((swp ks' cur b).map V.int)) = G3 at two4
            refine ⟨rfl, _, rfl, .inl ⟨rfl, _, SqL.of two4.w⟩, _, rfl, W, _, _, rfl, rfl, two4.w, small1000 (by rw [vi_len, List.length_append, List.length_singleton]; omega), ?_⟩
            have em : vi (way ++ [cur]) ++ [V.int (b : Nat)] = vi ((way ++ [cur]) ++ [b]) := by rw [vi_app (way ++ [cur])]; rfl
            rw [em]
            have two6 : TwoE (TT A) H2 D W ((swp ks' cur b).map V.int) (vi ((way ++ [cur]) ++ [b])) (upd G3 W (.lst (vi ((way ++ [cur]) ++ [b])))) := two4.setW
            generalize upd G3 W (.lst (vi ((way ++ [cur]) ++ [b]))) = G4 at two6
            have t6 := t2.ext two6.e
            obtain ⟨dx6, l6, h16, h26⟩ := t6.ob
            refine ⟨_, rfl, _, rfl, tr, dx6, _, rfl, h16, tr, n, w, b, rfl, t6, hb2, fun H7 ch7 s7 hch7 => ?_⟩
            rw [kids_eq, kids_same n (by omega) w (by omega) b hb2 hw.1] at hch7
            have two7 := two6.same s7
            refine ⟨⟨f, swp ks' cur b, b, way ++ [cur], _, _, _, ch7, rfl, two7, hch7, hb2, by rw [swp_len]; exact hkl, by rw [List.length_append, List.length_singleton]; omega, by omega, eg⟩, ?_⟩
            rw [hmu0]
            show muW [some (.ref r), some (.int p), some (.int w), some (.ref tr), some (.ref ch7), some (.ref D), some (.ref W), _, _, _] H7 < _
            rw [muW_at rfl two7.w, vi_len, List.length_append, List.length_append, List.length_singleton, List.length_singleton]
            omega
          · rw [decide_eq_true (show keyAt ks' cur ≤ keyAt ks' b by omega)]
            refine iteT ?_
            rw [goDown_stay hk0 (by rw [ebb]; exact hlt)] at eg
            rw [eg]
            exact ⟨_, _, _, rfl, two5⟩
      · rintro σ' H1 Q1 Q2 mono ⟨v, hv, k, tv, z⟩
        exact ⟨v, hv, k, tv, mono _ _ z⟩
    · rintro σ' H' ⟨x4, x8, x9, rfl, two⟩
      refine ⟨_, rfl, _, rfl, _, rfl, fun x dx2 nx ndx nex => ?_⟩
      have hD := (Same.up (o := .own x) ndx) _ _ two.d
      have hW := (Same.up (o := .own x) ndx) _ _ two.w
      have nx2 : upd H' dx2 (.own x) x = none := by rw [upd_ne nex.symm]; exact nx
      refine ⟨x, dx2, D, W, _, (goDown n w 20 ks p [p] 0).1, wz (goDown n w 20 ks p [p] 0).2.1, rfl, upd_same, .inl ((Same.up nx2) _ _ hD), .inl (by rw [← vi_wz]; exact (Same.up nx2) _ _ hW), fun H6 k6 st => ⟨rfl, q H6 x ?_ ?_ st⟩⟩
      · exact (extN_of s12).trans (two.e.trans (extN_of (new_same nx ndx k6)))
      · exact two.t.ext (new_same nx ndx k6)
theorem kb_down (T : Tx K mg A) : ∃ mv : List Value, KBn K A.d_sift_down ["row", "place", "arms"] 2 ["arms"] (fun us ws => us ++ (mv ++ ws)) (fun vs zs => vs ++ zs) := by
  obtain ⟨mv, h⟩ := T.F_sift_down.kbinds0 (ps := ["row", "place", "arms"]) 2 ["arms"] [] (fun us mv ws => us ++ (mv ++ ws)) (by simp) (by simp) (fun r1 r2 r3 => r1.append (r2.append r3))
    (fun D doc pm an cdv ct us mv ws h1 h2 h3 => by
      match us, mv, ws, h1, h2, h3 with
      | [a, b], [], [c], _, _, _ => rfl)
  exact ⟨mv, h⟩
def spFh : Sp := fun vs H Q _ => ∃ (r w : Nat) (ks : List Int), vs = [.ref r, .int w] ∧ (1 ≤ w ∧ w ≤ 4) ∧ RowIn H r ks ∧ faultL ks w = [] ∧ ks ≠ [] ∧ ∀ H' q, Same H H' → H' q = some (.tup (ks.map V.int)) → Q (.ref q) H'
theorem ok_fh (T : Tx K mg A) : FnOk P w K mg base CX0 9 A.f_filled_heap_of A.d_filled_heap_of ["row", "arms"] spFh := by
  refine T.F_filled_heap_of.ok sc_filled_heap_of (fun vs H Q E h => ?_) (fun cdv B outer s H vs Q E hr h => ?_)
  · obtain ⟨r, w, ks, rfl, _⟩ := h
    rfl
  · obtain ⟨r, w, ks, rfl, hw, hrow, hf, hn, q⟩ := h
    have nd := sc_filled_heap_of.nd
    refine ⟨_, (pss_cons (ps_set (i := 2) nd rfl (Or.inl rfl) (pe_call (ok_hp T) (hr.mono (by decide)) (by rfl) T.m_heap_of T.F_heap_of.kp (b_hp T) .nil pass0 (pa_cons (pv 0) (pa_cons (pv 1) pa_nil))))
      (pss_cons (ps_expr (pe_call (ok_cf T) (hr.mono (by decide)) (by rfl) T.m_check_filled T.F_check_filled.kp (b_cf T) .nil pass0 (pa_cons (pv 2) pa_nil)))
      (pss_one (ps_ret (pv 2))))), ?_⟩
    refine ⟨_, rfl, _, rfl, r, w, ks, rfl, hw, hrow, hf, fun H1 t s1 e1 => ?_⟩
    exact ⟨_, rfl, t, _, rfl, e1, fun z => hn (List.map_eq_nil_iff.mp z), _, rfl, q H1 t s1 e1⟩
theorem b_fh (T : Tx K mg A) : L2.Binds K A.d_filled_heap_of ["row", "arms"] [] := T.F_filled_heap_of.binds fun _ _ _ _ _ _ us hl => match us, hl with | [_, _], _ => rfl
theorem cut_end (ks : List Int) (h : 2 ≤ ks.length) : cutV (ks.map V.int) (some (-1)) none = [ks.getD (ks.length - 1) 0].map V.int ∧ ¬ (HT.sIx (ks.map V.int).length 0 (some (-1)) = 0 ∧ HT.sIx (ks.map V.int).length (ks.map V.int).length none = (ks.map V.int).length) := by
  have e : HT.sIx (ks.map V.int).length 0 (some (-1)) = ks.length - 1 := by
    unfold HT.sIx
    simp
    try omega
  have e2 : HT.sIx (ks.map V.int).length (ks.map V.int).length none = ks.length := by
    unfold HT.sIx
    simp
  refine ⟨?_, fun z => ?_⟩
  · unfold cutV
    rw [e, e2, ← List.map_drop, ← List.map_take]
    have d : ks.drop (ks.length - 1) = [ks.getD (ks.length - 1) 0] := by
      rw [List.drop_eq_getElem_cons (by omega), List.drop_eq_nil_of_le (by omega), List.getD_eq_getElem?_getD, List.getElem?_eq_getElem (by omega)]
      rfl
    rw [d, show ks.length - (ks.length - 1) = 1 by omega]
    rfl
  · rw [e] at z
    omega
theorem bnd_out {ks : List Int} (h : 2 ≤ ks.length) (hb : ∀ z ∈ ks, -1000000000 ≤ z ∧ z ≤ 1000000000) : ∀ z ∈ outRow ks, -1000000000 ≤ z ∧ z ≤ 1000000000 := by
  intro z hz
  unfold outRow at hz
  rcases List.mem_cons.mp hz with y | y
  · rw [y, List.getD_eq_getElem?_getD, List.getElem?_eq_getElem (by omega)]
    exact hb _ (List.getElem_mem _)
  · exact hb z (List.mem_of_mem_drop (List.mem_of_mem_take y))
def TookAt (C : Addr) (H : Hp) (t : Addr) (least : Int) (r : List Int × List Nat × Nat) : Prop := ∃ q : Addr, H t = some (.tup [.int least, .ref q]) ∧ resSift C H q r
def spTake2 (A : Ad) : Sp := fun vs H Q _ => ∃ (r w : Nat) (ks : List Int), vs = [.ref r, .int w] ∧ (1 ≤ w ∧ w ≤ 4) ∧ RowIn H r ks ∧ faultL ks w = [] ∧ ks ≠ [] ∧ Tabs (TT A) H ∧
  ∀ (H' : Hp) (t : Addr), ExtN H H' → Tabs (TT A) H' → TookAt A.CS H' t (ks.getD 0 0) (takeR ks w) → Q (.ref t) H'
theorem ok_tk (T : Tx K mg A) (TB : LamX.TabB base mg A.c_least_child A.P_least_child) : FnOk P w K mg base CX0 10 A.f_take A.d_take ["row", "arms"] (spTake2 A) := by
  obtain ⟨md, kd⟩ := kb_down T
  refine T.F_take.ok sc_take (fun vs H Q E h => ?_) (fun cdv B outer s H vs Q E hr h => ?_)
  · obtain ⟨r, w, ks, rfl, _⟩ := h
    rfl
  · obtain ⟨r, w, ks, rfl, hw, hrow, hf, hn, hT, q⟩ := h
    have nd := sc_take.nd
    have hl12 := hrow.2.1
    have hpos := List.length_pos_iff.mpr hn
    refine ⟨_, PSs.nox (pss_cons (ps_set (i := 2) nd rfl (Or.inl rfl) (pe_call (ok_fh T) (hr.mono (by decide)) (by rfl) T.m_filled_heap_of T.F_filled_heap_of.kp (b_fh T) .nil pass0 (pa_cons (pv 0) (pa_cons (pv 1) pa_nil))))
      (pss_cons (ps_if (pt_cmpR op_eq (pe_callB call_len_seq (by rfl) T.g_len PySem.boot_len (pa_cons (pv 2) pa_nil)) pe_int (nomark _)) (pss_one (ps_ret (pe_tup (pa_cons (pe_ix (r := rIx K) ix_seq (pv 2) pe_int (fun _ _ => rfl)) (pa_cons (pe_make T.mkCS (ok_zi T) (hr.mono (by decide)) (by rfl) T.mCS (b_zi T) .nil pass0 (pa_cons (pe_tup pa_nil) (pa_cons (pe_tup pa_nil) (pa_cons pe_int pa_nil)))) pa_nil))))) pss_nil)
      (pss_one (ps_ret (pe_tup (pa_cons (pe_ix (r := rIx K) ix_seq (pv 2) pe_int (fun _ _ => rfl)) (pa_cons (pe_callN (ok_down T TB) (hr.mono (by decide)) (by rfl) T.m_sift_down T.F_sift_down.kp kd pass0 (pa_cons (pe_op op_catA (pe_slice sl_tup (pv 2) (po_some (pe_un un_neg pe_int)) po_none) (pe_slice sl_tup (pv 2) (po_some pe_int) (po_some (pe_un un_neg pe_int)))) (pa_cons pe_int pa_nil)) (pk_cons (pv 1) pk_nil)) pa_nil))))))), ?_⟩
    refine ⟨_, rfl, _, rfl, r, w, ks, rfl, hw, hrow, hf, hn, fun H1 t s1 e1 => ?_⟩
    have at0 : atI (ks.map V.int) 0 = some (V.int (ks.getD 0 0)) := key_at hpos
    refine ⟨_, rfl, t, _, rfl, .inr (SqT.of e1), rfl, _, rfl, ?_⟩
    by_cases h1 : ks.length = 1
    · rw [decide_eq_true (show V.int ((ks.map V.int).length : Nat) = V.int 1 by rw [List.length_map, h1]; rfl)]
      refine iteT ?_
      refine ⟨_, rfl, .inr (.inl ⟨t, _, _, _, rfl, rfl, SqT.of e1, at0, Nat.zero_le _, fun u1 n1 => ⟨Nat.zero_le _, fun u2 n2 => ?_⟩⟩)⟩
      have s2 := (Same.up (o := .tup []) n1).trans (Same.up (o := .tup []) n2)
      intro x dx2 nx ndx nex
      have s3 := new_up (C := A.CS) nx ndx nex
      refine ⟨x, dx2, u1, u2, 0, [], [], rfl, upd_same, .inr (s3 _ _ ((Same.up n2) _ _ upd_same)), .inr (s3 _ _ upd_same), fun G6 k6 sx => ⟨rfl, by show 2 ≤ sizeLine; decide, fun z nz => ?_⟩⟩
      have s4 := s1.trans (s2.trans ((new_same nx ndx k6).trans (Same.up (o := .tup [V.int (ks.getD 0 0), V.ref x]) nz)))
      refine q _ z (extN_of s4) (hT.ext s4) ⟨x, upd_same, ?_⟩
      unfold takeR
      rw [if_pos h1]
      exact sx.same (Same.up nz)
    · rw [decide_eq_false (show ¬ V.int ((ks.map V.int).length : Nat) = V.int 1 by rw [List.length_map]; intro z; injection z with z; omega)]
      have h2 : 2 ≤ ks.length := by omega
      refine iteF ?_
      refine ⟨_, rfl, .inr (.inl ⟨t, _, _, _, rfl, rfl, SqT.of e1, at0, ?_⟩)⟩
      obtain ⟨c1, c1n⟩ := cut_end ks h2
      obtain ⟨c2, c2n⟩ := cut_mid ks h2
      refine ⟨_, rfl, _, rfl, _, rfl, t, _, rfl, SqT.of e1, c1n, fun a1 na1 => ?_⟩
      rw [c1]
      have sa := Same.up (o := .tup ([ks.getD (ks.length - 1) 0].map V.int)) na1
      refine ⟨_, rfl, _, rfl, _, rfl, _, rfl, t, _, rfl, SqT.of (sa _ _ e1), c2n, fun a2 na2 => ?_⟩
      rw [c2]
      have sb := Same.up (o := .tup (((ks.drop 1).take (ks.length - 2)).map V.int)) na2
      have ea1 := sb _ _ (upd_same (H := H1) (a := a1) (o := .tup ([ks.getD (ks.length - 1) 0].map V.int)))
      have ea2 : upd (upd H1 a1 (.tup ([ks.getD (ks.length - 1) 0].map V.int))) a2 (.tup (((ks.drop 1).take (ks.length - 2)).map V.int)) a2 = some (.tup (((ks.drop 1).take (ks.length - 2)).map V.int)) := upd_same
      have s2 := sa.trans sb
      clear sa sb
      generalize upd (upd H1 a1 (.tup ([ks.getD (ks.length - 1) 0].map V.int))) a2 (.tup (((ks.drop 1).take (ks.length - 2)).map V.int)) = H2 at s2 ea1 ea2
      refine ⟨a1, a2, _, _, rfl, rfl, SqT.of ea1, SqT.of ea2, Nat.le_of_lt (small1000 (by rw [List.length_map, List.length_map, List.length_take, List.length_drop, List.length_singleton]; omega)), fun z => (nomatch z), fun _ hn2 => ?_, fun _ hn2 c nc => ?_⟩
      · have e0 : (ks.drop 1).take (ks.length - 2) = [] := List.map_eq_nil_iff.mp hn2
        obtain ⟨c, rfl⟩ : ∃ c, c = a1 := ⟨a1, rfl⟩
        have s3 := s2
        have ec : H2 c = some (.tup ((outRow ks).map V.int)) := by unfold outRow; rw [e0]; exact ea1
        refine ⟨_, rfl, rfl, rfl, c, 0, w, outRow ks, rfl, hw, ⟨.inr ec, by rw [outRow_len h2]; omega, bnd_out h2 hrow.2.2⟩, by rw [outRow_len h2]; omega, (hT.ext s1).ext s3, fun H4 p e4 t4 rp => ⟨by show 2 ≤ sizeLine; decide, fun z nz => ?_⟩⟩
        have sz := Same.up (o := .tup [V.int (ks.getD 0 0), V.ref p]) nz
        refine q _ z ((extN_of (s1.trans s3)).trans (e4.trans (extN_of sz))) (t4.ext sz) ⟨p, upd_same, ?_⟩
        unfold takeR
        rw [if_neg h1]
        rw [outRow_len h2] at rp
        exact rp.same sz
      · have s3 := s2.trans (Same.up (o := .tup ((outRow ks).map V.int)) nc)
        have ec : upd H2 c (.tup ((outRow ks).map V.int)) c = some (.tup ((outRow ks).map V.int)) := upd_same
        rw [show [ks.getD (ks.length - 1) 0].map V.int ++ ((ks.drop 1).take (ks.length - 2)).map V.int = (outRow ks).map V.int from rfl]
        generalize upd H2 c (.tup ((outRow ks).map V.int)) = H3 at s3 ec
        refine ⟨_, rfl, rfl, rfl, c, 0, w, outRow ks, rfl, hw, ⟨.inr ec, by rw [outRow_len h2]; omega, bnd_out h2 hrow.2.2⟩, by rw [outRow_len h2]; omega, (hT.ext s1).ext s3, fun H4 p e4 t4 rp => ⟨by show 2 ≤ sizeLine; decide, fun z nz => ?_⟩⟩
        have sz := Same.up (o := .tup [V.int (ks.getD 0 0), V.ref p]) nz
        refine q _ z ((extN_of (s1.trans s3)).trans (e4.trans (extN_of sz))) (t4.ext sz) ⟨p, upd_same, ?_⟩
        unfold takeR
        rw [if_neg h1]
        rw [outRow_len h2] at rp
        exact rp.same sz
theorem q3 : ¬ (("stops" : Str) = "changes") := by decide +kernel
theorem zf_row (t1 t2 lk : Nat) : (zf t1 t2 lk).lookup ("row" : Str) = some (.ref t1) := by
  unfold zf
  rw [lookup_putF, if_neg m2, lookup_putF, if_neg m1, lookup_putF, if_pos rfl]
theorem zf_way (t1 t2 lk : Nat) : (zf t1 t2 lk).lookup ("way" : Str) = some (.ref t2) := by
  unfold zf
  rw [lookup_putF, if_neg m3, lookup_putF, if_pos rfl]
theorem TookAt.ext {C : Addr} {H H' : Hp} {t : Addr} {x : Int} {r : List Int × List Nat × Nat} (h : TookAt C H t x r) (e : ExtN H H') : TookAt C H' t x r :=
  let ⟨p, a, s⟩ := h; ⟨p, e _ _ a (fun ps z => nomatch z), SiftAt.ext s e⟩
def spBsh (A : Ad) : Sp := fun vs H Q _ => ∃ (o r w place : Nat) (least : Int) (ks bs : List Int), vs = [.ref o, .ref r, .int least, .int place, .int w] ∧ AtQ A.CQ H o bs ∧ bs.length ≤ 12 ∧ (∀ z ∈ bs, -1000000000 ≤ z ∧ z ≤ 1000000000) ∧ TkOk H r w ks least place ∧ Tabs (TT A) H ∧
  ∀ H', ExtN H H' → Tabs (TT A) H' → Q (.bl (decide (befP w ks bs least place))) H'
theorem ok_bsh (T : Tx K mg A) (TB : LamX.TabB base mg A.c_least_child A.P_least_child) : FnOk P w K mg base CX0 13 A.f_q_shows A.d_q_shows ["self", "row", "least", "place", "arms"] (spBsh A) := by
  obtain ⟨mh, kih⟩ := kb_ish T
  obtain ⟨mt, kt⟩ := kb_tk T
  refine T.F_q_shows.ok sc_q_shows (fun vs H Q E h => ?_) (fun cdv B outer s H vs Q E hr h => ?_)
  · obtain ⟨o, r, w, place, least, ks, bs, rfl, _⟩ := h
    rfl
  · obtain ⟨o, r, w, place, least, ks, bs, rfl, ⟨dx, t0, g, e0⟩, hbl, hbb, h, hT, q⟩ := h
    have nd := sc_q_shows.nd
    have hu := hr.units
    have hpl := h.pl
    have hw := h.hw
    refine ⟨_, PSs.nox (pss_cons (ps_set (i := 5) nd rfl (Or.inl rfl) (pe_call (ok_ha T) (hr.mono (by decide)) (by rfl) T.m_heap_after T.F_heap_after.kp (b_ha T) .nil pass0 (pa_cons (pv 1) (pa_cons (pv 2) (pa_cons (pv 3) (pa_cons (pv 4) pa_nil))))))
      (pss_cons (ps_if (PW.pt (pw_or (pt_cmpR op_ne (pe_callB call_len_seq (by rfl) T.g_len PySem.boot_len (pa_cons (pe_fld (pv 0) rfl) pa_nil)) (pe_op op_add (pe_callB call_len_seq (by rfl) T.g_len PySem.boot_len (pa_cons (pv 5) pa_nil)) pe_int) (nomark _)) (pw_or1 (pt_not (pt_val (pe_callN (ok_ish T) (hr.mono (by decide)) (by rfl) T.m_is_heap T.F_is_heap.kp kih pass0 (pa_cons (pe_fld (pv 0) rfl) pa_nil) (pk_cons (pv 4) pk_nil))))))) (pss_one (ps_ret pe_bl)) pss_nil)
      (pss_cons (ps_asg (pe_callN (ok_tk T TB) (hr.mono (by decide)) (by rfl) T.m_take T.F_take.kp kt pass0 (pa_cons (pe_fld (pv 0) rfl) pa_nil) (pk_cons (pv 4) pk_nil)) (pg_tup rfl (pgs_cons (pg_name (i := 6) nd rfl (Or.inl rfl)) (pgs_cons (pg_name (i := 7) nd rfl (Or.inl rfl)) pgs_nil))))
      (pss_one (ps_ret (pe_and (pe_cmpR op_eq (pv 6) (pv 2) (nomark _)) (pe_and (pe_cmpR (op_eqD hu) (pe_fld (pv 7) rfl) (pv 5) (nomark _)) (pe_one (pe_cmpR op_eq (pe_ix (r := rIx K) ix_seq (pe_fld (pv 7) rfl) (pe_un un_neg pe_int) (fun _ _ => rfl)) (pv 3) (nomark _)))))))))), ?_⟩
    refine ⟨_, rfl, _, rfl, _, rfl, _, rfl, r, w, place, least, ks, rfl, h, fun H1 t s1 e1 => ?_⟩
    have g1 := s1 _ _ g
    have e01 := s1 _ _ e0
    refine ⟨_, rfl, o, A.CQ, dx, _, _, rfl, g1, T.cTQ, T.qRow, fdQ_row _, t0, _, rfl, .inr (SqT.of e01), _, rfl, t, _, rfl, .inr (SqT.of e1), _, _, rfl, rfl, rfl, _, rfl, ?_⟩
    rw [List.length_map, List.length_map]
    have en : ∀ b : Bool, decide (bs.length = ks.length + 1) = b → (!decide (V.int (bs.length : Nat) = V.int ((ks.length : Int) + 1))) = !b := fun b hb => by
      rw [← hb]
      by_cases h1 : bs.length = ks.length + 1
      · rw [decide_eq_true h1, decide_eq_true (show V.int (bs.length : Nat) = V.int ((ks.length : Int) + 1) by rw [h1]; rfl)]
      · rw [decide_eq_false h1, decide_eq_false fun z => h1 (by injection z with z; omega)]
    have q1 := q H1 (extN_of s1) (hT.ext s1)
    by_cases h1 : bs.length = ks.length + 1
    case neg =>
      rw [decide_eq_false (show ¬ befP w ks bs least place from fun z => h1 z.1)] at q1
      exact ite_b (c := true) (en false (decide_eq_false h1)) (iteT (iteT q1))
    refine ite_b (c := false) (en true (decide_eq_true h1)) (iteF ⟨_, rfl, o, A.CQ, dx, _, _, rfl, g1, T.cTQ, T.qRow, fdQ_row _, _, rfl, rfl, rfl, t0, w, bs, rfl, hw, ⟨.inr e01, hbl, hbb⟩, fun H2 s2 => ⟨_, rfl, ?_⟩⟩)
    have s12 := s1.trans s2
    have q2 := q H2 (extN_of s12) (hT.ext s12)
    by_cases h2 : faultL bs w = []
    case neg =>
      rw [decide_eq_false h2]
      rw [decide_eq_false (show ¬ befP w ks bs least place from fun z => h2 z.2.1)] at q2
      exact iteT q2
    rw [decide_eq_true h2]
    have hbn : bs ≠ [] := fun z => by rw [z] at h1; simp at h1
    refine iteF ⟨_, rfl, o, A.CQ, dx, _, _, rfl, s2 _ _ g1, T.cTQ, T.qRow, fdQ_row _, _, rfl, rfl, rfl, t0, w, bs, rfl, hw, ⟨.inr (s2 _ _ e01), hbl, hbb⟩, h2, hbn, hT.ext s12, fun H3 u e3 t3 ⟨z, k1, dz, z1, z2, k2, k3, k4⟩ => ?_⟩
    have q3 := q H3 ((extN_of s12).trans e3) t3
    refine ⟨_, _, rfl, SqT.of k1, rfl, _, _, rfl, _, _, rfl, rfl, ?_⟩
    refine ⟨_, rfl, _, rfl, rfl, _, rfl, ?_⟩
    rw [int_deq]
    by_cases h3 : bs.getD 0 0 = least
    case neg =>
      rw [decide_eq_false h3]
      rw [decide_eq_false (show ¬ befP w ks bs least place from fun z => h3 z.2.2.1)] at q3
      exact iteF q3
    rw [decide_eq_true h3]
    have et := e3 _ _ (s2 _ _ e1) (fun _ z => nomatch z)
    refine iteT ⟨_, rfl, z, A.CS, dz, _, _, rfl, k2, T.cTS, T.nRow, zf_row _ _ _, _, rfl, _, _, ints_tup K k3, ints_tup K et, ints_shT _, ints_shT _, _, rfl, ?_⟩
    rw [ints_eqv]
    by_cases h4 : (takeR bs w).1 = ks
    case neg =>
      rw [decide_eq_false h4]
      rw [decide_eq_false (show ¬ befP w ks bs least place from fun z => h4 z.2.2.2.1)] at q3
      exact iteF q3
    rw [decide_eq_true h4]
    have hwn : (takeR bs w).2.1 ≠ [] := by
      unfold takeR
      rw [if_neg (by omega)]
      exact down_way _ _ _ _ _ _ _ (by simp)
    refine iteT ⟨_, rfl, z, A.CS, dz, _, _, rfl, k2, T.cTS, T.nWay, zf_way _ _ _, _, rfl, .inr (.inl ⟨z2, _, _, _, rfl, rfl, SqT.of k4, last_wz hwn, _, rfl, rfl, ?_⟩)⟩
    rw [int_deq]
    have ed : decide (befP w ks bs least place) = decide (((lastW (takeR bs w).2.1 : Nat) : Int) = (place : Int)) := by
      unfold befP
      simp only [h1, h2, h3, h4, true_and, Int.natCast_inj]
    rw [ed] at q3
    exact q3
end
end Tw

set_option Elab.async false
set_option linter.all false
set_option maxRecDepth 100000
set_option maxHeartbeats 2000000
namespace Tw
open PySem PySem.Spec PyProof.Rows L2
section
variable {P : Program} {w : World} {K : PySem.W.Frag} {mg : Str → Option Value} {base : Heap} {A : Ad}
open LamX (ExtN Tabs TabS)
theorem b_siz (T : Tx K mg A) : L2.Binds K A.d_t_size ["self", "place"] [] := T.F_t_size.binds fun _ _ _ _ _ _ us hl => match us, hl with | [_, _], _ => rfl
theorem sub_n (n w i : Nat) : (subL n w i).length ≤ n := by
  unfold subL
  exact Nat.le_trans (List.length_filter_le _ _) (by rw [List.length_range]; exact Nat.le_refl _)
theorem b_sub (T : Tx K mg A) : L2.Binds K A.d_t_subtree ["self", "place"] [] := T.F_t_subtree.binds fun _ _ _ _ _ _ us hl => match us, hl with | [_, _], _ => rfl
theorem b_way (T : Tx K mg A) : L2.Binds K A.d_t_way_to ["self", "place"] [] := T.F_t_way_to.binds fun _ _ _ _ _ _ us hl => match us, hl with | [_, _], _ => rfl
theorem up_len : ∀ w, w < 5 → ∀ p, p < 13 → 1 ≤ w → (upL w p).length ≤ 13 := by decide +kernel
theorem vi_rev (a : List Nat) : (vi a).reverse = vi a.reverse := by unfold vi; rw [List.map_reverse]
/-- a number that falls while a place goes up -/
def muV : Option (Option V) → Nat
  | some (some (V.int z)) => z.toNat + 1
  | _ => 0
def spWay (C : Addr) : Sp := fun vs H Q _ => ∃ (p n w i : Nat), vs = [.ref p, .int i] ∧ TreeAt C H p n w ∧ i < n ∧ ∀ H' q, Same H H' → H q = none → H' q = some (.tup (vi (wayL w i))) → Q (.ref q) H'
theorem ok_way (T : Tx K mg A) : FnOk P w K mg base CX0 5 A.f_t_way_to A.d_t_way_to ["self", "place"] (spWay A.C) := by
  refine T.F_t_way_to.ok sc_t_way_to (fun vs H Q E h => ?_) (fun cdv B outer s H vs Q E hr h => ?_)
  · obtain ⟨p, n, w, i, rfl, _⟩ := h
    rfl
  · obtain ⟨p, n, w, i, rfl, t, hi, q⟩ := h
    refine ⟨_, pss_cons (ps_set (i := 2) sc_t_way_to.nd rfl (Or.inl rfl) (pe_lst (pa_cons (pv 1) pa_nil)))
      (pss_cons (ps_set (i := 3) sc_t_way_to.nd rfl (Or.inl rfl) (pe_meth (pv 0) T.cT T.M_t_parent (ok_par T) hr (b_par T) .nil pass0 (pa_cons (pv 1) pa_nil)))
      (pss_cons (ps_while PassesOwn.never (pt_cmpR op_notN (pv 3) pe_non (nomark _))
        (pss_cons (ps_expr (pe_bm PySem.F.plainAttrs_list PySem.F.slot_list_append PySem.F.type_list_append mt_append (pv 2) (pa_cons (pv 3) pa_nil)))
        (pss_one (ps_set (i := 3) sc_t_way_to.nd rfl (Or.inl rfl) (pe_meth (pv 0) T.cT T.M_t_parent (ok_par T) hr (b_par T) .nil pass0 (pa_cons (pv 3) pa_nil))))))
      (pss_one (ps_ret (pe_callTy call_tuple_of (by rfl) T.g_tuple (by decide +kernel) (pa_cons (pe_revL (pv 2)) pa_nil)))))), ?_⟩
    obtain ⟨dx, l, h1, h2⟩ := t.ob
    have noP : (tf n w l).lookup ("parent" : Str) = none := tf_no _ _ _ (by decide +kernel) (by decide +kernel) (by decide +kernel)
    refine ⟨_, rfl, by show 1 ≤ sizeLine; decide, fun d hd => ?_⟩
    have s1 : Same H (upd H d (.lst [V.int (i : Nat)])) := Same.up hd
    refine ⟨_, rfl, p, dx, _, rfl, s1 _ _ h1, noP, _, rfl, p, n, w, i, rfl, t.same s1, hi, ?_⟩
    refine while_by (fun σ H' => ∃ (c : Nat) (acc : List Nat), σ = [some (.ref p), some (.int i), some (.ref d), some (parV w c)] ∧ c < n ∧ Acc H d (vi (acc ++ [c])) H' ∧ acc ++ upL w c = upL w i ∧ acc.length ≤ 12)
      (fun σ _ => muV σ[3]?) ⟨i, [], rfl, hi, ⟨s1, hd, upd_same⟩, rfl, Nat.zero_le _⟩ ?_ ?_
    · rintro σ H' ⟨c, acc, rfl, hc, ac, ea, hl⟩
      have hn := t.hn
      have hw := t.hw
      have eu := up_eq w (by omega) c (by omega) hw.1
      refine ⟨_, rfl, rfl, _, rfl, ?_⟩
      by_cases h0 : c = 0
      · have ev : parV w c = V.non := by unfold parV; rw [if_pos h0]
        rw [ev, decide_eq_true (rfl : V.non = V.non)]
        refine iteF ?_
        rw [if_pos h0] at eu
        refine ⟨_, rfl, d, _, rfl, SqL.of ac.a, fun r hr0 => ⟨r, _, rfl, .inl ⟨SqL.of upd_same, fun u hu => q _ u (ac.s.trans ((Same.up hr0).trans (Same.up hu))) (ac.s.free ((Same.up hr0).free hu)) ?_⟩⟩⟩
        unfold wayL
        rw [upd_same, vi_rev, ← ea, eu, h0]
      · have ev : parV w c = V.int ((c - 1) / w : Nat) := by unfold parV; rw [if_neg h0]
        rw [ev, decide_eq_false (show ¬ V.int ((c - 1) / w : Nat) = V.non from fun z => nomatch z)]
        refine iteT ?_
        rw [if_neg h0] at eu
        have hlt : (c - 1) / w < c := Nat.lt_of_le_of_lt (Nat.div_le_self _ _) (by omega)
        have hL : acc.length + 1 + (upL w ((c - 1) / w)).length = (upL w i).length := by
          rw [← ea, eu, List.length_append, List.length_cons]
          omega
        have hL2 := up_len w (by omega) i (by omega) hw.1
        have hL3 := up_eq w (by omega) ((c - 1) / w) (by omega) hw.1
        have hL4 : 1 ≤ (upL w ((c - 1) / w)).length := by
          rw [hL3]
          split
          · exact Nat.le_refl _
          · rw [List.length_cons]; omega
        refine ⟨_, rfl, .inl ⟨rfl, _, SqL.of ac.a⟩, _, rfl, d, _, _, rfl, rfl, ac.a, small1000 (by rw [vi_len, List.length_append, List.length_singleton]; omega), ?_⟩
        have e2 : vi (acc ++ [c]) ++ [V.int ((c - 1) / w : Nat)] = vi (acc ++ [c] ++ [(c - 1) / w]) := by rw [vi_app (acc ++ [c])]; rfl
        rw [e2]
        have ac2 : Acc H d (vi (acc ++ [c] ++ [(c - 1) / w])) (upd H' d (.lst (vi (acc ++ [c] ++ [(c - 1) / w])))) := ac.push
        refine ⟨_, rfl, p, dx, _, rfl, ac2.s _ _ h1, noP, _, rfl, p, n, w, (c - 1) / w, rfl, t.same ac2.s, by omega, ?_⟩
        refine ⟨⟨(c - 1) / w, acc ++ [c], rfl, by omega, ac2, ?_, by rw [List.length_append, List.length_singleton]; omega⟩, ?_⟩
        · rw [← ea, eu, List.append_assoc]
          rfl
        · show muV (some (some (parV w ((c - 1) / w)))) < muV (some (some (V.int ((c - 1) / w : Nat))))
          unfold parV
          split
          · show 0 < _
            exact Nat.succ_pos _
          · rename_i h9
            show (((((c - 1) / w - 1) / w : Nat) : Int)).toNat + 1 < ((((c - 1) / w : Nat) : Int)).toNat + 1
            rw [Int.toNat_natCast, Int.toNat_natCast]
            exact Nat.succ_lt_succ (Nat.lt_of_le_of_lt (Nat.div_le_self _ _) (Nat.sub_lt (Nat.pos_of_ne_zero h9) Nat.one_pos))
    · rintro σ' H1 Q1 Q2 mono ⟨v, hv, e1, b1, e2, z⟩
      exact ⟨v, hv, e1, b1, e2, mono _ _ z⟩
theorem mem_vi (i : Nat) (l : List Nat) : inV (V.int (i : Nat)) (vi l) = decide (i ∈ l) := by
  have key : ∀ j : Nat, eqV (V.int (j : Nat)) (V.int (i : Nat)) = decide (j = i) := fun j => by
    show ((j : Int) == (i : Int)) = decide (j = i)
    by_cases h : j = i
    · rw [h, decide_eq_true rfl, beq_self_eq_true]
    · rw [decide_eq_false h]
      exact beq_eq_false_iff_ne.mpr (by omega)
  unfold inV vi
  induction l with
  | nil => rfl
  | cons a l ih =>
    rw [List.map_cons, List.any_cons, ih, key]
    by_cases h : a = i
    · simp [h]
    · simp [h, Ne.symm h]
theorem vi_flat (l : List Nat) : (vi l).all flatV = true := by
  unfold vi
  rw [List.all_map]
  exact List.all_eq_true.mpr fun _ _ => rfl
theorem sub_pick (n w i : Nat) : vi (subL n w i) = (List.range n).filterMap fun j => if i ∈ wayL w j then some (V.int (j : Nat)) else none := by
  unfold vi subL
  induction List.range n with
  | nil => rfl
  | cons a l ih =>
    by_cases h : i ∈ wayL w a
    · rw [List.filter_cons_of_pos (by simp [h]), List.map_cons, ih, List.filterMap_cons, if_pos h]
    · rw [List.filter_cons_of_neg (by simp [h]), ih, List.filterMap_cons, if_neg h]
def spSub (C : Addr) : Sp := fun vs H Q _ => ∃ (p n w i : Nat), vs = [.ref p, .int i] ∧ TreeAt C H p n w ∧ i < n ∧ ∀ H' q, Same H H' → H q = none → H' q = some (.tup (vi (subL n w i))) → Q (.ref q) H'
theorem ok_sub (T : Tx K mg A) : FnOk P w K mg base CX0 6 A.f_t_subtree A.d_t_subtree ["self", "place"] (spSub A.C) := by
  refine T.F_t_subtree.ok sc_t_subtree (fun vs H Q E h => ?_) (fun cdv B outer s H vs Q E hr h => ?_)
  · obtain ⟨p, n, w, i, rfl, _⟩ := h
    rfl
  · obtain ⟨p, n, w, i, rfl, t, hi, q⟩ := h
    obtain ⟨dx, l, h1, h2⟩ := t.ob
    have noW : (tf n w l).lookup ("way_to" : Str) = none := tf_no _ _ _ (by decide +kernel) (by decide +kernel) (by decide +kernel)
    refine ⟨_, pss_cons (ps_expr (pe_call (ok_cp T) (hr.mono (by decide)) (by rfl) T.m_check_place T.F_check_place.kp (b_cp T) .nil pass0 (pa_cons (pv 1) (pa_cons (pe_fld (pv 0) rfl) pa_nil))))
      (pss_one (ps_ret (pe_callTy call_tuple_of (by rfl) T.g_tuple (by decide +kernel) (pa_cons
        (pe_lc (own := [("below", 2)]) (g := gName 2) rfl sc_t_subtree.nd (pi_tup (pe_fld (pv 0) rfl)) (blkOk_by (own := [("below", 2)]) (N := ["self", "place", "below"]) (sc := defScope s_t_subtree) (by decide +kernel)) (fun _ _ _ _ _ => pg_name (i := 2) sc_t_subtree.nd rfl (Or.inl rfl))
          (fun _ _ _ _ _ => pts_one (pt_cmpR (r := L2.rIn K false) op_in_seq (pv 1) (pe_meth (pv 0) T.cT T.M_t_way_to (ok_way T) hr (b_way T) .nil pass0 (pa_cons (pv 2) pa_nil)) (by rfl))) (fun _ _ _ _ _ => pv 2)) pa_nil)))), ?_⟩
    refine ⟨_, rfl, _, rfl, p, A.C, dx, _, _, rfl, h1, T.cT, T.nMany, tf_many _ _ _, _, _, rfl, ⟨by omega, by omega⟩, ?_⟩
    refine ⟨_, rfl, p, A.C, dx, _, _, rfl, h1, T.cT, T.nPl, tf_pl _ _ _, l, rfl, ⟨_, SqT.of h2⟩, fun D hD => ?_⟩
    refine lc_it (walk_tup (xs := pl n)) (PickI H D (List.range n) fun j => if i ∈ wayL w j then some (V.int (j : Nat)) else none) (pick_start hD) (fun k H' _ h => SqT.of (h.s _ _ h2)) ?_ ?_
    · rintro k x H2 H3 hk pk ⟨rfl, ex⟩
      obtain ⟨hk', rfl⟩ := map_at ex
      rw [List.getElem_range]
      rw [List.length_range] at hk'
      refine ⟨rfl, _, rfl, _, rfl, p, dx, _, rfl, pk.s _ _ h1, noW, _, rfl, p, n, w, k, rfl, t.same pk.s, hk', fun H4 r s4 r0 hr4 => ?_⟩
      refine ⟨r, _, rfl, .inr (SqT.of hr4), rfl, vi_flat _, _, rfl, ?_⟩
      show if (inV (V.int (i : Nat)) (vi (wayL w k))) = true then _ else _
      rw [mem_vi]
      by_cases hm : i ∈ wayL w k
      · rw [decide_eq_true hm]
        exact iteT ⟨_, rfl, pick_yes (by rw [List.length_range]; exact hk') (by rw [List.length_range]; have := t.hn; omega) (by rw [List.getElem_range, if_pos hm]) s4 pk⟩
      · rw [decide_eq_false hm]
        exact iteF (pick_no (by rw [List.length_range]; exact hk') (by rw [List.getElem_range, if_neg hm]) s4 pk)
    · intro H2 pk
      have ac := pick_end (by rw [pl_len, List.length_range]) pk
      refine ⟨D, _, rfl, .inl ⟨SqL.of ac.a, fun r hr0 => q _ r (ac.s.trans (Same.up hr0)) (ac.s.free hr0) ?_⟩⟩
      rw [upd_same, ← sub_pick]
def spSiz (C : Addr) : Sp := fun vs H Q _ => ∃ (p n w i : Nat), vs = [.ref p, .int i] ∧ TreeAt C H p n w ∧ i < n ∧ ∀ H', Same H H' → Q (.int (subL n w i).length) H'
theorem ok_siz (T : Tx K mg A) : FnOk P w K mg base CX0 7 A.f_t_size A.d_t_size ["self", "place"] (spSiz A.C) := by
  refine T.F_t_size.ok sc_t_size (fun vs H Q E h => ?_) (fun cdv B outer s H vs Q E hr h => ?_)
  · obtain ⟨p, n, w, i, rfl, _⟩ := h
    rfl
  · obtain ⟨p, n, w, i, rfl, t, hi, q⟩ := h
    obtain ⟨dx, l, h1, h2⟩ := t.ob
    have noS : (tf n w l).lookup ("subtree" : Str) = none := tf_no _ _ _ (by decide +kernel) (by decide +kernel) (by decide +kernel)
    refine ⟨_, pss_one (ps_ret (pe_callB call_len_seq (by rfl) T.g_len PySem.boot_len (pa_cons (pe_meth (pv 0) T.cT T.M_t_subtree (ok_sub T) hr (b_sub T) .nil pass0 (pa_cons (pv 1) pa_nil)) pa_nil))), ?_⟩
    refine ⟨_, rfl, p, dx, _, rfl, h1, noS, _, rfl, p, n, w, i, rfl, t, hi, fun H1 r s1 r0 hr1 => ?_⟩
    refine ⟨r, _, rfl, .inr (SqT.of hr1), ?_⟩
    rw [vi_len]
    exact q _ s1
theorem plAt {n i : Nat} {x : V} (h : (pl n)[i]? = some x) : i < n ∧ x = V.int (i : Nat) := by
  unfold pl at h
  rw [List.getElem?_map] at h
  by_cases hi : i < n
  · rw [List.getElem?_range hi] at h
    exact ⟨hi, (Option.some.inj h).symm⟩
  · rw [List.getElem?_eq_none (by rw [List.length_range]; omega)] at h
    cases h
def spHm : Sp := fun vs H Q _ => ∃ (n w : Nat), vs = [.int n, .int w] ∧ n ≤ 12 ∧ (1 ≤ w ∧ w ≤ 4) ∧ ∀ H', Same H H' → Q (.int (howN n w : Nat)) H'
theorem ok_hm (T : Tx K mg A) : FnOk P w K mg base CX0 8 A.f_how_many A.d_how_many ["many", "arms"] spHm := by
  obtain ⟨mi, ki⟩ := kb_init T
  refine T.F_how_many.ok sc_how_many (fun vs H Q E h => ?_) (fun cdv B outer s H vs Q E hr h => ?_)
  · obtain ⟨n, w, rfl, _⟩ := h
    rfl
  · obtain ⟨n, w, rfl, hn, hw, q⟩ := h
    have nd := sc_how_many.nd
    refine ⟨_, PSs.nox (pss_cons (ps_set (i := 2) nd rfl (Or.inl rfl) (pe_makeK T.mkC (ok_init T) (hr.mono (by decide)) (by rfl) T.mC ki pass0 (pa_cons (pv 0) pa_nil) (pk_cons (pv 1) pk_nil)))
      (pss_cons (ps_set (i := 3) nd rfl (Or.inl rfl) pe_int)
      (C8.pss_cut (ps_for PassesOwn.never rfl (pi_own T.D_t___iter__ (ok_iter T) (hr.mono (by decide)) (b_iter T) (pv 2)) (pg_name (i := 4) nd rfl (Or.inl rfl)) (pss_one (ps_set (i := 3) nd rfl (Or.inl rfl) (pe_op op_mul (pv 3) (pe_meth (pv 2) T.cT T.M_t_size (ok_siz T) (hr.mono (by decide)) (b_siz T) .nil pass0 (pa_cons (pv 4) pa_nil))))))
      (pss_one (ps_ret (pe_op op_fdiv (pe_callBfun cr_fac (by rfl) T.b_factorial (pa_cons (pv 0) pa_nil)) (pv 3))))))), ?_⟩
    refine ⟨_, rfl, _, rfl, rfl, rfl, fun x dx nx ndx nex => ?_⟩
    refine ⟨x, dx, n, w, rfl, hn, hw, upd_same, fun H2 k2 t2 => ⟨rfl, ?_⟩⟩
    have s1 := new_same nx ndx k2
    obtain ⟨dx2, l, h1, h2⟩ := id t2.ob
    have noS : (tf n w l).lookup ("size" : Str) = none := tf_no _ _ _ (by decide +kernel) (by decide +kernel) (by decide +kernel)
    refine ⟨fun σ' H' => (∃ x4 : Option V, σ' = [some (.int n), some (.int w), some (.ref x), some (.int (prodS n w n : Nat)), x4]) ∧ Same H2 H', ?_, ?_⟩
    · refine ⟨_, rfl, x, dx2, _, l, _, rfl, h1, tf_pl _ _ _, SqT.of h2, ?_⟩
      refine for_it (walk_tup (xs := pl n)) (fun i σ' H' => (∃ x4 : Option V, σ' = [some (.int n), some (.int w), some (.ref x), some (.int (prodS n w i : Nat)), x4]) ∧ Same H2 H') ⟨⟨_, rfl⟩, Same.refl _⟩ (fun i σ' H' _ ⟨_, s⟩ => SqT.of (s _ _ h2)) ?_ ?_
      · rintro i y σ' H3o H3 hi ⟨⟨x4, rfl⟩, s3⟩ ⟨rfl, hy⟩
        obtain ⟨hi2, rfl⟩ := plAt hy
        refine ⟨_, rfl, _, rfl, x, dx2, _, rfl, s3 _ _ h1, noS, _, rfl, x, n, w, i, rfl, t2.same s3, hi2, fun H4 s4 => ?_⟩
        have hsz := sub_n n w i
        refine ⟨_, _, rfl, rfl, .inr ⟨by omega, by omega⟩, ⟨some (.int (i : Nat)), ?_⟩, s3.trans s4⟩
        rw [show prodS n w (i + 1) = prodS n w i * (subL n w i).length from rfl, Int.natCast_mul]
        rfl
      · rintro σ' H3 ⟨⟨x4, rfl⟩, s3⟩
        rw [pl_len]
        exact ⟨⟨x4, rfl⟩, s3⟩
    · rintro σ' H3 ⟨⟨x4, rfl⟩, s3⟩
      obtain ⟨p1, p2⟩ := prod_ok w (by omega) n (by omega) hw.1
      refine ⟨_, rfl, n, rfl, by omega, _, rfl, _, _, rfl, rfl, ⟨by omega, by omega⟩, ?_⟩
      have := q H3 (s1.trans s3)
      unfold howN at this
      rw [Int.natCast_ediv] at this
      exact this
/-- two lists of one's own -/
structure Two (H : Hp) (D W : Addr) (xs ys : List V) (H' : Hp) : Prop where
  s : Same H H'
  d : H' D = some (.lst xs)
  w : H' W = some (.lst ys)
  nD : H D = Option.none
  nW : H W = Option.none
  ne : D ≠ W
theorem Two.same {H H' H2 : Hp} {D W : Addr} {xs ys : List V} (h : Two H D W xs ys H') (s : Same H' H2) : Two H D W xs ys H2 := ⟨h.s.trans s, s _ _ h.d, s _ _ h.w, h.nD, h.nW, h.ne⟩
theorem kid_pick (n w i : Nat) : vi (kidL n w i) = (List.range (n - 1)).filterMap fun j => if j / w = i then some (V.int ((j + 1 : Nat) : Int)) else none := by
  unfold vi kidL
  induction List.range (n - 1) with
  | nil => rfl
  | cons a l ih =>
    by_cases h : a / w = i
    · rw [List.filter_cons_of_pos (by simp [h]), List.map_cons, List.map_cons, ih, List.filterMap_cons, if_pos h]
    · rw [List.filter_cons_of_neg (by simp [h]), ih, List.filterMap_cons, if_neg h]
def spLKid : Sp := fun vs H Q _ => ∃ (w n i : Nat), vs = [.int w, .int n, .int i] ∧ (1 ≤ w ∧ w ≤ 4) ∧ n ≤ 12 ∧ i < n ∧ ∀ H' q, Same H H' → H q = none → H' q = some (.lst (vi (kidL n w i))) → Q (.ref q) H'
theorem ok_lkid (T : Tx K mg A) : FnOk P w K mg base CX0 3 A.f__law_children A.d__law_children ["wide", "many", "place"] spLKid := by
  refine T.F__law_children.ok sc__law_children (fun vs H Q E h => ?_) (fun cdv B outer s H vs Q E hr h => ?_)
  · obtain ⟨w, n, i, rfl, _⟩ := h
    rfl
  · obtain ⟨w, n, i, rfl, hw, hn, hi, q⟩ := h
    have nd := sc__law_children.nd
    refine ⟨_, pss_one (ps_ret (pe_lc (own := [("other", 3)]) (g := gName 3) rfl nd (pi_range2 rfl T.g_range (pa_cons pe_int (pa_cons (pv 1) pa_nil))) (blkOk_by (own := [("other", 3)]) (N := ["wide", "many", "place", "other"]) (sc := defScope s__law_children) (by decide +kernel))
      (fun _ _ _ _ _ => pg_name (i := 3) nd rfl (Or.inl rfl))
      (fun _ _ _ _ _ => pts_one (pt_cmpR op_eq (pe_call (ok_lpar T) hr (by rfl) T.m__law_parent T.F__law_parent.kp (b_lpar T) .nil pass0 (pa_cons (pv 0) (pa_cons (pv 3) pa_nil))) (pv 2) (nomark _))) (fun _ _ _ _ _ => pv 3))), ?_⟩
    refine ⟨_, rfl, _, _, rfl, ⟨by omega, by omega, by omega, by omega⟩, fun D hD => ?_⟩
    rw [show ((n : Int) - 1).toNat = n - 1 by omega]
    refine lc_it (walk_range (lo := 1) (n := n - 1)) (PickI H D (List.range (n - 1)) fun j => if j / w = i then some (V.int ((j + 1 : Nat) : Int)) else none) (pick_start hD) (fun k H' _ h => trivial) ?_ ?_
    · rintro k x H2 H3 hk pk ⟨rfl, ex⟩
      have ex2 : x = V.int ((k + 1 : Nat) : Int) := ex.trans (by show V.int (1 + (k : Int)) = _; rw [show (1 + (k : Int)) = ((k + 1 : Nat) : Int) by omega])
      subst ex2
      have hk' : k < (List.range (n - 1)).length := by rw [List.length_range]; exact hk
      refine ⟨rfl, _, rfl, _, rfl, w, k + 1, rfl, hw, by omega, _, rfl, rfl, _, rfl, ?_⟩
      rw [show k + 1 - 1 = k by omega]
      by_cases hm : k / w = i
      · rw [decide_eq_true (show V.int ((k / w : Nat) : Int) = V.int (i : Nat) by rw [hm])]
        exact iteT ⟨_, rfl, pick_yes hk' (by rw [List.length_range]; omega) (by rw [List.getElem_range, if_pos hm]) (Same.refl _) pk⟩
      · rw [decide_eq_false (show ¬ V.int ((k / w : Nat) : Int) = V.int (i : Nat) from fun z => hm (by injection z with z; exact Int.ofNat.inj z))]
        exact iteF (pick_no hk' (by rw [List.getElem_range, if_neg hm]) (Same.refl _) pk)
    · intro H2 pk
      have ac := pick_end (by rw [List.length_range]) pk
      refine q _ D ac.s hD ?_
      rw [ac.a, kid_pick]
theorem b_lkid (T : Tx K mg A) : L2.Binds K A.d__law_children ["wide", "many", "place"] [] := T.F__law_children.binds fun _ _ _ _ _ _ us hl => match us, hl with | [_, _, _], _ => rfl
theorem Two.setD {H H' : Hp} {D W : Addr} {xs ys zs : List V} (h : Two H D W xs ys H') : Two H D W zs ys (upd H' D (.lst zs)) :=
  ⟨fun b o e => by rw [upd_ne (ne_of_none e h.nD)]; exact h.s _ _ e, upd_same, by rw [upd_ne h.ne.symm]; exact h.w, h.nD, h.nW, h.ne⟩
theorem Two.setW {H H' : Hp} {D W : Addr} {xs ys zs : List V} (h : Two H D W xs ys H') : Two H D W xs zs (upd H' W (.lst zs)) :=
  ⟨fun b o e => by rw [upd_ne (ne_of_none e h.nW)]; exact h.s _ _ e, by rw [upd_ne h.ne]; exact h.d, upd_same, h.nD, h.nW, h.ne⟩
/-- (tuple(late), tuple(way), looks) -/
theorem due_out {H' G : Hp} {D W : Addr} {r : List Int × List Nat × Nat} {u1 u2 t : Addr} (n1 : H' u1 = none) (n2 : upd H' u1 (.tup (r.1.map V.int)) u2 = none) (nt : upd (upd H' u1 (.tup (r.1.map V.int))) u2 (.tup (vi r.2.1)) t = none) :
    Same H' (upd (upd (upd H' u1 (.tup (r.1.map V.int))) u2 (.tup (vi r.2.1))) t (.tup [.ref u1, .ref u2, .int (r.2.2 : Nat)])) ∧ DueAt (upd (upd (upd H' u1 (.tup (r.1.map V.int))) u2 (.tup (vi r.2.1))) t (.tup [.ref u1, .ref u2, .int (r.2.2 : Nat)])) t r :=
  ⟨(Same.up n1).trans ((Same.up n2).trans (Same.up nt)), u1, u2, upd_same, (Same.up nt) _ _ ((Same.up n2) _ _ upd_same), (Same.up nt) _ _ upd_same⟩
theorem first_step {kf : Nat → Int} {i j : Nat} (h : Cl.FirstLeast kf (max i 1) j) : Cl.FirstLeast kf (i + 1) (if kf i < kf j then i else j) := by
  obtain ⟨a, b, c⟩ := h
  by_cases hi : i = 0
  · subst hi
    have ej : j = 0 := by omega
    subst ej
    rw [if_neg (by omega)]
    exact ⟨by omega, fun k hk => by rw [show k = 0 by omega]; omega, fun k hk => absurd hk (by omega)⟩
  · rw [show max i 1 = i by omega] at a b
    by_cases hl : kf i < kf j
    · rw [if_pos hl]
      refine ⟨by omega, fun k hk => ?_, fun k hk => ?_⟩
      · by_cases e : k = i
        · rw [e]; omega
        · have := b k (by omega); omega
      · have := b k (by omega); omega
    · rw [if_neg hl]
      refine ⟨by omega, fun k hk => ?_, c⟩
      by_cases e : k = i
      · rw [e]; omega
      · exact b k (by omega)
theorem vi_at {l : List Nat} {i : Nat} {x : V} (h : (vi l)[i]? = some x) : i < l.length ∧ x = V.int ((l.getD i 0 : Nat) : Int) := by
  unfold vi at h
  rw [List.getElem?_map] at h
  cases e : l[i]? with
  | none => rw [e] at h; cases h
  | some a =>
    rw [e] at h
    have hi := (List.getElem?_eq_some_iff.mp e).1
    refine ⟨hi, ?_⟩
    rw [List.getD_eq_getElem?_getD, e]
    exact (Option.some.inj h).symm
def spLDown : Sp := fun vs H Q _ => ∃ (r w p : Nat) (ks : List Int), vs = [.ref r, .int w, .int p] ∧ (1 ≤ w ∧ w ≤ 4) ∧ Sq H r (ks.map V.int) ∧ ks.length ≤ 12 ∧ p < ks.length ∧
  ∀ (H' : Hp) (d : Addr), Same H H' → DueAt H' d (goDown ks.length w 20 ks p [p] 0) → Q (.ref d) H'
theorem ok_ldown (T : Tx K mg A) : FnOk P w K mg base CX0 4 A.f__law_down A.d__law_down ["row", "wide", "place"] spLDown := by
  refine T.F__law_down.ok sc__law_down (fun vs H Q E h => ?_) (fun cdv B outer s H vs Q E hr h => ?_)
  · obtain ⟨r, w, p, ks, rfl, _⟩ := h
    rfl
  · obtain ⟨r, w, p, ks, rfl, hw, hrow, hk12, hp, q⟩ := h
    have nd := sc__law_down.nd
    have hu := hr.units
    refine ⟨_, (pss_cons (ps_par3 (i := 3) (j := 4) (l := 5) rfl nd rfl rfl rfl (by decide) (by decide) (by decide) rfl rfl rfl (pa_cons (pe_callTy call_list_of (by rfl) T.g_list (by decide +kernel) (pa_cons (pv 0) pa_nil)) (pa_cons (pe_lst (pa_cons (pv 2) pa_nil)) (pa_cons pe_int pa_nil))) rfl)
      (C8.pss_cut (ps_for PassesOwn.never rfl (pi_range1 rfl T.g_range (pa_cons pe_int pa_nil)) (pg_name (i := 6) nd rfl (Or.inl rfl)) (pss_cons (ps_set (i := 7) nd rfl (Or.inl rfl) (pe_call (ok_lkid T) (hr.mono (by decide)) (by rfl) T.m__law_children T.F__law_children.kp (b_lkid T) .nil pass0 (pa_cons (pv 1) (pa_cons (pe_callB call_len_seq (by rfl) T.g_len PySem.boot_len (pa_cons (pv 0) pa_nil)) (pa_cons (pe_ix ix_list (pv 4) (pe_un un_neg pe_int) (fun _ _ => rfl)) pa_nil)))))
      (pss_cons (ps_if (pt_cmpR (op_eqD hu) (pv 7) (pe_lst pa_nil) (nomark _)) (pss_one ps_break) pss_nil)
      (pss_cons (ps_par (i := 5) (j := 8) rfl nd rfl rfl (by decide) rfl rfl (pa_cons (pe_op op_add (pv 5) (pe_callB call_len_seq (by rfl) T.g_len PySem.boot_len (pa_cons (pv 7) pa_nil))) (pa_cons (pe_ix ix_list (pv 7) pe_int (fun _ _ => rfl)) pa_nil)) rfl)
      (C8.pss_cut (ps_for PassesOwn.never rfl (pi_list (pv 7)) (pg_name (i := 9) nd rfl (Or.inl rfl)) (pss_one (ps_if (pt_cmpR op_lt (pe_ix ix_list (pv 3) (pv 9) (fun _ _ => rfl)) (pe_ix ix_list (pv 3) (pv 8) (fun _ _ => rfl)) (nomark _)) (pss_one (ps_set (i := 8) nd rfl (Or.inl rfl) (pv 9))) pss_nil)))
      (pss_cons (ps_if (pt_not (pt_cmpR op_gt (pe_ix ix_list (pv 3) (pe_ix ix_list (pv 4) (pe_un un_neg pe_int) (fun _ _ => rfl)) (fun _ _ => rfl)) (pe_ix ix_list (pv 3) (pv 8) (fun _ _ => rfl)) (nomark _))) (pss_one ps_break) pss_nil)
      (pss_cons (ps_asg (pe_tup (pa_cons (pe_ix ix_list (pv 3) (pv 8) (fun _ _ => rfl)) (pa_cons (pe_ix ix_list (pv 3) (pe_ix ix_list (pv 4) (pe_un un_neg pe_int) (fun _ _ => rfl)) (fun _ _ => rfl)) pa_nil))) (pg_tup rfl (pgs_cons (pg_sub (pv 3) (pe_ix ix_list (pv 4) (pe_un un_neg pe_int) (fun _ _ => rfl)) set_list) (pgs_cons (pg_sub (pv 3) (pv 8) set_list) pgs_nil))))
      (pss_one (ps_expr (pe_bm PySem.F.plainAttrs_list PySem.F.slot_list_append PySem.F.type_list_append mt_append (pv 4) (pa_cons (pv 8) pa_nil)))))))))))
      (pss_one (ps_ret (pe_tup (pa_cons (pe_callTy call_tuple_of (by rfl) T.g_tuple (by decide +kernel) (pa_cons (pv 3) pa_nil)) (pa_cons (pe_callTy call_tuple_of (by rfl) T.g_tuple (by decide +kernel) (pa_cons (pv 4) pa_nil)) (pa_cons (pv 5) pa_nil)))))))), ?_⟩
    refine ⟨_, rfl, r, _, rfl, hrow.len, fun D nD => ⟨_, rfl, by show 1 ≤ sizeLine; decide, fun W nW => ⟨_, _, _, rfl, ?_⟩⟩⟩
    have nDW : D ≠ W := ne_of_none (upd_same (H := H) (a := D)) nW
    have two0 : Two H D W (ks.map V.int) (vi ([] ++ [p])) (upd (upd H D (.lst (ks.map V.int))) W (.lst [V.int (p : Nat)])) :=
      ⟨(Same.up nD).trans (Same.up nW), by rw [upd_ne nDW]; exact upd_same, upd_same, nD, (Same.up nD).free nW, nDW⟩
    generalize upd (upd H D (.lst (ks.map V.int))) W (.lst [V.int (p : Nat)]) = H4 at two0
    generalize en : ks.length = n at *
    refine ⟨fun σ' H' => ∃ (x6 x7 x8 x9 : Option V), σ' = [some (.ref r), some (.int w), some (.int p), some (.ref D), some (.ref W), some (.int ((goDown n w 20 ks p [p] 0).2.2 : Nat)), x6, x7, x8, x9] ∧ Two H D W ((goDown n w 20 ks p [p] 0).1.map V.int) (vi (goDown n w 20 ks p [p] 0).2.1) H', ?_, ?_⟩
    · refine ⟨20, rfl, by decide, by decide, for_range (n := 20) (fun i σ' H' => ∃ (ks' : List Int) (cur : Nat) (way : List Nat) (lk : Nat) (x6 x7 x8 x9 : Option V), σ' = [some (.ref r), some (.int w), some (.int p), some (.ref D), some (.ref W), some (.int lk), x6, x7, x8, x9] ∧ Two H D W (ks'.map V.int) (vi (way ++ [cur])) H' ∧
        cur < n ∧ ks'.length = n ∧ way.length = i ∧ i ≤ 20 ∧ goDown n w 20 ks p [p] 0 = goDown n w (20 - i) ks' cur (way ++ [cur]) lk) ⟨ks, p, [], 0, none, none, none, none, rfl, two0, hp, en, rfl, by omega, rfl⟩ ?_ ?_⟩
      · rintro i σ' H' hi ⟨ks', cur, way, lk, x6, x7, x8, x9, rfl, two, hcur, hkl, hwl, hi2, eg⟩
        have hlast : atI (vi (way ++ [cur])) (-1) = some (V.int ((cur : Nat) : Int)) := by
          rw [vi_app]
          exact last_at
        have ef : 20 - i = (20 - (i + 1)) + 1 := by omega
        rw [ef] at eg
        refine ⟨_, rfl, _, rfl, r, _, rfl, (hrow.same two.s).len, _, rfl, _, rfl, W, _, _, _, rfl, rfl, SqL.of two.w, hlast, w, n, cur, by rw [List.length_map, en]; rfl, hw, hk12, hcur, fun H5 b s5 b0 hb => ?_⟩
        have two5 := two.same s5
        refine ⟨_, rfl, Nat.zero_le _, fun e0 ne0 => ?_⟩
        have s6 : Same H5 (upd H5 e0 (.lst [])) := Same.up ne0
        have he0 : upd H5 e0 (.lst []) e0 = some (.lst (vi [])) := upd_same
        have two6 := two5.same s6
        have hb6 := s6 _ _ hb
        generalize upd H5 e0 (.lst []) = H6 at two6 hb6 he0
        refine ⟨_, _, dp_lst _ hb6, dp_lst _ he0, dl_shapedL _, dl_shapedL _, _, rfl, ?_⟩
        rw [dl_emp]
        by_cases hk0 : kidL n w cur = []
        · rw [decide_eq_true hk0]
          refine iteT ?_
          rw [goDown_leaf hk0] at eg
          rw [eg]
          exact ⟨_, _, _, _, rfl, two6⟩
        · rw [decide_eq_false hk0]
          refine iteF ?_
          have hpos := List.length_pos_iff.mpr hk0
          have hmem := least_mem (ks := ks') hk0
          have hk4 := kid_len n (by omega) w (by omega) cur hcur hw.1
          obtain ⟨hb1, hb2⟩ := kid_in hw.1 hmem
          have at0 : atI (vi (kidL n w cur)) 0 = some (V.int (((kidL n w cur).getD 0 0 : Nat) : Int)) := by
            show atI (vi (kidL n w cur)) ((0 : Nat) : Int) = _
            refine atI_nat ?_
            unfold vi
            rw [List.getElem?_map, List.getD_eq_getElem?_getD, List.getElem?_eq_getElem hpos]
            rfl
          refine ⟨_, rfl, _, rfl, b, _, rfl, .inl (SqL.of hb6), _, _, rfl, rfl, _, rfl, b, _, _, _, rfl, rfl, SqL.of hb6, at0, _, _, rfl, ?_⟩
          rw [vi_len]
          have nbD : b ≠ D := fun z => by rw [z, two5.d] at hb; have z2 := Option.some.inj hb; injection z2 with z2; rw [z] at b0; rw [two.d] at b0; cases b0
          refine ⟨fun σ' G => ∃ (x9 : Option V), σ' = [some (.ref r), some (.int w), some (.int p), some (.ref D), some (.ref W), some (.int ((lk + (kidL n w cur).length : Nat) : Int)), some (.int ((0 : Int) + (i : Nat))), some (.ref b), some (.int ((leastC ks' (kidL n w cur) : Nat) : Int)), x9] ∧ G = H6, ?_, ?_⟩
          · refine ⟨_, rfl, b, rfl, ⟨_, SqL.of hb6⟩, for_list (K := K) (a := b) (xs := vi (kidL n w cur)) (fun i2 σ' G => ∃ (j : Nat) (x9 : Option V), σ' = [some (.ref r), some (.int w), some (.int p), some (.ref D), some (.ref W), some (.int ((lk + (kidL n w cur).length : Nat) : Int)), some (.int ((0 : Int) + (i : Nat))), some (.ref b), some (.int (((kidL n w cur).getD j 0 : Nat) : Int)), x9] ∧ G = H6 ∧
              Cl.FirstLeast (fun m => keyAt ks' ((kidL n w cur).getD m 0)) (max i2 1) j) ⟨0, x9, rfl, rfl, ⟨by omega, fun k hk => by rw [show k = 0 by omega]; omega, fun k hk => absurd hk (by omega)⟩⟩ (fun i2 σ' G _ ⟨_, _, _, e, _⟩ => by rw [e]; exact SqL.of hb6) ?_ ?_⟩
            · rintro i2 x σ' G hx ⟨j, y9, rfl, rfl, fl⟩
              obtain ⟨hi2', rfl⟩ := vi_at hx
              have hmi : (kidL n w cur).getD i2 0 ∈ kidL n w cur := by rw [List.getD_eq_getElem?_getD, List.getElem?_eq_getElem hi2']; exact List.getElem_mem hi2'
              have hj : j < (kidL n w cur).length := by have := fl.1; omega
              have hmj : (kidL n w cur).getD j 0 ∈ kidL n w cur := by rw [List.getD_eq_getElem?_getD, List.getElem?_eq_getElem hj]; exact List.getElem_mem hj
              have q1 := (kid_in hw.1 hmi).2
              have q2 := (kid_in hw.1 hmj).2
              have st := first_step fl
              refine ⟨_, rfl, _, rfl, D, _, _, _, rfl, rfl, SqL.of two6.d, key_at (by omega), _, rfl, _, rfl, D, _, _, _, rfl, rfl, SqL.of two6.d, key_at (by omega), _, _, rfl, rfl, _, rfl, ?_⟩
              by_cases hl : keyAt ks' ((kidL n w cur).getD i2 0) < keyAt ks' ((kidL n w cur).getD j 0)
              · rw [decide_eq_true hl]
                refine iteT ⟨_, rfl, i2, _, rfl, rfl, ?_⟩
                rw [if_pos hl] at st
                rw [show max (i2 + 1) 1 = i2 + 1 by omega]
                exact st
              · rw [decide_eq_false hl]
                refine iteF ⟨j, _, rfl, rfl, ?_⟩
                rw [if_neg hl] at st
                rw [show max (i2 + 1) 1 = i2 + 1 by omega]
                exact st
            · rintro σ' G ⟨j, y9, rfl, rfl, fl⟩
              rw [vi_len, show max (kidL n w cur).length 1 = (kidL n w cur).length by omega] at fl
              rw [least_of fl]
              exact ⟨_, rfl, rfl⟩
          rintro σ' G ⟨y9, rfl, rfl⟩
          generalize ebb : leastC ks' (kidL n w cur) = c at *
          have hc1 : cur < ks'.length := by omega
          have hc2 : c < ks'.length := by omega
          refine ⟨_, rfl, _, rfl, _, rfl, W, _, _, _, rfl, rfl, SqL.of two6.w, hlast, D, _, _, _, rfl, rfl, SqL.of two6.d, key_at hc1, _, rfl, _, rfl, D, _, _, _, rfl, rfl, SqL.of two6.d, key_at hc2, _, _, rfl, rfl, _, rfl, ?_⟩
          by_cases hlt : keyAt ks' c < keyAt ks' cur
          · rw [decide_eq_true (show keyAt ks' cur > keyAt ks' c from hlt)]
            refine iteF ?_
            rw [goDown_go hk0 ebb hlt] at eg
            refine ⟨_, rfl, _, rfl, D, _, _, _, rfl, rfl, SqL.of two6.d, key_at hc2, _, rfl, _, rfl, _, rfl, W, _, _, _, rfl, rfl, SqL.of two6.w, hlast, D, _, _, _, rfl, rfl, SqL.of two6.d, key_at hc1, by show 2 ≤ sizeLine; decide, fun t ht => ?_⟩
            have two2 := two6.same (Same.up (o := .tup [V.int (keyAt ks' c), V.int (keyAt ks' cur)]) ht)
            have et : upd G t (.tup [V.int (keyAt ks' c), V.int (keyAt ks' cur)]) t = some (.tup [V.int (keyAt ks' c), V.int (keyAt ks' cur)]) := upd_same
            generalize upd G t (.tup [V.int (keyAt ks' c), V.int (keyAt ks' cur)]) = G1 at two2 et
            refine ⟨t, _, rfl, SqT.of et, rfl, _, _, rfl, _, rfl, _, rfl, _, rfl, W, _, _, _, rfl, rfl, SqL.of two2.w, hlast, D, _, _, cur, rfl, rfl, two2.d, ixN_nat (by rw [List.length_map]; exact hc1), ?_⟩
            rw [set_int]
            have two3 : Two H D W ((ks'.set cur (keyAt ks' c)).map V.int) (vi (way ++ [cur])) (upd G1 D (.lst ((ks'.set cur (keyAt ks' c)).map V.int))) := two2.setD
            generalize upd G1 D (.lst ((ks'.set cur (keyAt ks' c)).map V.int)) = G2 at two3
            refine ⟨_, _, rfl, _, rfl, _, rfl, D, _, _, c, rfl, rfl, two3.d, ixN_nat (by rw [List.length_map, List.length_set]; exact hc2), ?_⟩
            rw [set_int, show (ks'.set cur (keyAt ks' c)).set c (keyAt ks' cur) = swp ks' cur c from rfl]
            have two4 : Two H D W ((swp ks' cur c).map V.int) (vi (way ++ [cur])) (upd G2 D (.lst ((swp ks' cur c).map V.int))) := two3.setD
            generalize upd G2 D (.lst ((swp ks' cur c).map V.int)) = G3 at two4
            refine ⟨rfl, _, rfl, .inl ⟨rfl, _, SqL.of two4.w⟩, _, rfl, W, _, _, rfl, rfl, two4.w, small1000 (by rw [vi_len, List.length_append, List.length_singleton]; omega), ?_⟩
            have em : vi (way ++ [cur]) ++ [V.int (c : Nat)] = vi ((way ++ [cur]) ++ [c]) := by rw [vi_app (way ++ [cur])]; rfl
            rw [em]
            exact ⟨swp ks' cur c, c, way ++ [cur], _, _, _, _, _, rfl, two4.setW, by omega, by rw [swp_len]; exact hkl, by rw [List.length_append, hwl]; rfl, by omega, eg⟩
          · rw [decide_eq_false (show ¬ keyAt ks' cur > keyAt ks' c from hlt)]
            refine iteT ?_
            rw [goDown_stay hk0 (by rw [ebb]; exact hlt)] at eg
            rw [eg]
            exact ⟨_, _, _, _, rfl, two6⟩
      · rintro σ' H' ⟨ks', cur, way, lk, x6, x7, x8, x9, rfl, two, hcur, hkl, hwl, hi2, eg⟩
        rw [show goDown n w (20 - 20) ks' cur (way ++ [cur]) lk = (ks', way ++ [cur], lk) from rfl] at eg
        rw [eg]
        exact ⟨_, _, _, _, rfl, two⟩
    · rintro σ' H' ⟨x6, x7, x8, x9, rfl, two⟩
      refine ⟨_, rfl, D, _, rfl, .inl ⟨SqL.of two.d, fun u1 n1 => ⟨_, rfl, W, _, rfl, .inl ⟨SqL.of ((Same.up n1) _ _ two.w), fun u2 n2 => ⟨_, rfl, by show 3 ≤ sizeLine; decide, fun t nt => ?_⟩⟩⟩⟩⟩
      have o := due_out (D := D) (W := W) (G := H') (r := goDown n w 20 ks p [p] 0) n1 n2 nt
      exact q _ t (two.s.trans o.1) o.2
end
end Tw

set_option Elab.async false
set_option linter.all false
set_option maxRecDepth 100000
set_option maxHeartbeats 2000000
namespace Tw
open PySem PySem.Spec PyProof.Rows L2
section
variable {P : Program} {w : World} {K : PySem.W.Frag} {mg : Str → Option Value} {base : Heap} {A : Ad}
open LamX (ExtN Tabs TabS)
theorem b_ldown (T : Tx K mg A) : L2.Binds K A.d__law_down ["row", "wide", "place"] [] := T.F__law_down.binds fun _ _ _ _ _ _ us hl => match us, hl with | [_, _, _], _ => rfl
theorem map_one (l : List Int) (x : Int) : l.map V.int ++ [V.int x] = (l ++ [x]).map V.int := by rw [List.map_append]; rfl
theorem last_ints {ks : List Int} (h : 1 ≤ ks.length) : atI (ks.map V.int) (-1) = some (V.int (ks.getD (ks.length - 1) 0)) := by
  have d : ks = ks.take (ks.length - 1) ++ [ks.getD (ks.length - 1) 0] := by
    have x : ks.take (ks.length - 1) ++ [ks[ks.length - 1]] = ks.take (ks.length - 1 + 1) := List.take_append_getElem (by omega)
    rw [show ks.length - 1 + 1 = ks.length by omega, List.take_length] at x
    rw [List.getD_eq_getElem?_getD, List.getElem?_eq_getElem (by omega)]
    exact x.symm
  have e : ks.map V.int = (ks.take (ks.length - 1)).map V.int ++ [V.int (ks.getD (ks.length - 1) 0)] := by
    rw [map_one]
    exact congrArg (List.map V.int) d
  rw [e]
  exact last_at
/-- ((), (), 0) -/
theorem due_none {H' : Hp} {u1 u2 t : Addr} (n1 : H' u1 = none) (n2 : upd H' u1 (.tup []) u2 = none) (nt : upd (upd H' u1 (.tup [])) u2 (.tup []) t = none) :
    Same H' (upd (upd (upd H' u1 (.tup [])) u2 (.tup [])) t (.tup [.ref u1, .ref u2, .int 0])) ∧ DueAt (upd (upd (upd H' u1 (.tup [])) u2 (.tup [])) t (.tup [.ref u1, .ref u2, .int 0])) t ([], [], 0) :=
  ⟨(Same.up n1).trans ((Same.up n2).trans (Same.up nt)), u1, u2, upd_same, (Same.up nt) _ _ ((Same.up n2) _ _ upd_same), (Same.up nt) _ _ upd_same⟩
theorem sq_ix {K : PySem.W.Frag} {H : Hp} {r : Addr} {ks : List Int} {i v : Int} {Q : VK} (h : Sq H r (ks.map V.int)) (e : atI (ks.map V.int) i = some (V.int v)) (q : Q (.int v) H) : rIx K (.ref r) (.int i) H Q := by
  rcases h with h | h
  · exact .inl ⟨r, _, _, _, rfl, rfl, SqL.of h, e, q⟩
  · exact .inr (.inl ⟨r, _, _, _, rfl, rfl, SqT.of h, e, q⟩)
def spLOut : Sp := fun vs H Q _ => ∃ (r w : Nat) (ks : List Int), vs = [.ref r, .int w] ∧ (1 ≤ w ∧ w ≤ 4) ∧ Sq H r (ks.map V.int) ∧ 1 ≤ ks.length ∧ ks.length ≤ 12 ∧
  ∀ (H' : Hp) (d : Addr), Same H H' → DueAt H' d (takeR ks w) → Q (.ref d) H'
theorem ok_lout (T : Tx K mg A) : FnOk P w K mg base CX0 5 A.f__law_out A.d__law_out ["row", "wide"] spLOut := by
  refine T.F__law_out.ok sc__law_out (fun vs H Q E h => ?_) (fun cdv B outer s H vs Q E hr h => ?_)
  · obtain ⟨r, w, ks, rfl, _⟩ := h
    rfl
  · obtain ⟨r, w, ks, rfl, hw, hrow, hpos, hk12, q⟩ := h
    have nd := sc__law_out.nd
    refine ⟨_, (C8.pss_cut (ps_if (pt_cmpR op_eq (pe_callB call_len_seq (by rfl) T.g_len PySem.boot_len (pa_cons (pv 0) pa_nil)) pe_int (nomark _)) (pss_one (ps_ret (pe_tup (pa_cons (pe_tup pa_nil) (pa_cons (pe_tup pa_nil) (pa_cons pe_int pa_nil)))))) pss_nil)
      (pss_one (ps_ret (pe_call (ok_ldown T) (hr.mono (by decide)) (by rfl) T.m__law_down T.F__law_down.kp (b_ldown T) .nil pass0 (pa_cons (pe_op op_cat (pe_lst (pa_cons (pe_ix (r := rIx K) ix_seq (pv 0) (pe_un un_neg pe_int) (fun _ _ => rfl)) pa_nil)) (pe_callTy call_list_of (by rfl) T.g_list (by decide +kernel) (pa_cons (pe_slice (sl_list.or sl_tup) (pv 0) (po_some pe_int) (po_some (pe_un un_neg pe_int))) pa_nil))) (pa_cons (pv 1) (pa_cons pe_int pa_nil))))))), ?_⟩
    refine ⟨fun σ' H' => σ' = [some (.ref r), some (.int w)] ∧ H' = H ∧ ¬ ks.length = 1, ?_, ?_⟩
    · refine ⟨_, rfl, r, _, rfl, hrow.len, rfl, _, rfl, ?_⟩
      by_cases h1 : ks.length = 1
      · rw [decide_eq_true (show V.int ((ks.map V.int).length : Nat) = V.int 1 by rw [List.length_map, h1]; rfl)]
        refine iteT ⟨Nat.zero_le _, fun u1 n1 => ⟨Nat.zero_le _, fun u2 n2 => ⟨by show 3 ≤ sizeLine; decide, fun t nt => ?_⟩⟩⟩
        obtain ⟨o1, o2⟩ := due_none n1 n2 nt
        refine q _ t o1 ?_
        unfold takeR
        rw [if_pos h1]
        exact o2
      · rw [decide_eq_false (show ¬ V.int ((ks.map V.int).length : Nat) = V.int 1 by rw [List.length_map]; intro z; injection z with z; omega)]
        exact iteF ⟨rfl, rfl, h1⟩
    rintro σ' H' ⟨rfl, rfl, h1⟩
    have h2 : 2 ≤ ks.length := by omega
    refine ⟨_, rfl, _, rfl, sq_ix hrow (last_ints hpos) ⟨by show 1 ≤ sizeLine; decide, fun l1 n1 => ?_⟩⟩
    have s1 := Same.up (o := .lst [V.int (ks.getD (ks.length - 1) 0)]) n1
    have e1 := upd_same (H := H') (a := l1) (o := .lst [V.int (ks.getD (ks.length - 1) 0)])
    generalize upd H' l1 (.lst [V.int (ks.getD (ks.length - 1) 0)]) = H1 at s1 e1
    refine ⟨_, rfl, _, rfl, _, rfl, _, rfl, sq_cut K (hrow.same s1) (cut_mid ks h2) fun p G sG hG => ?_⟩
    refine ⟨p, _, rfl, hG.len, fun l2 n2 => ?_⟩
    have s2 := Same.up (o := .lst (((ks.drop 1).take (ks.length - 2)).map V.int)) n2
    refine ⟨l1, l2, _, _, rfl, rfl, s2 _ _ (sG _ _ e1), upd_same, Nat.le_of_lt (small1000 (by rw [List.length_singleton, List.length_map, List.length_take, List.length_drop]; omega)), fun p3 n3 => ?_⟩
    rw [show [V.int (ks.getD (ks.length - 1) 0)] ++ ((ks.drop 1).take (ks.length - 2)).map V.int = (outRow ks).map V.int from rfl]
    have s3 := s1.trans (sG.trans (s2.trans (Same.up (o := .lst ((outRow ks).map V.int)) n3)))
    refine ⟨_, rfl, p3, w, 0, outRow ks, rfl, hw, .inl upd_same, by rw [outRow_len h2]; omega, by rw [outRow_len h2]; omega, fun H5 f s5 d5 => ?_⟩
    refine q _ f (s3.trans s5) ?_
    unfold takeR
    rw [if_neg h1, ← outRow_len h2]
    exact d5
def rgI (n : Nat) : List Int := (List.range n).map fun i => ((i : Nat) : Int)
theorem rgI_len (n : Nat) : (rgI n).length = n := by
  unfold rgI
  rw [List.length_map, List.length_range]
theorem rgI_pl (n : Nat) : pl n = (rgI n).map V.int := by
  unfold pl rgI
  rw [List.map_map]
  rfl
/-- an order of the first numbers -/
def spLO (K : PySem.W.Frag) : Sp := fun vs H Q _ => ∃ (d a : Addr) (ns : List Int) (k n : Nat), vs = [.ref d, .int n] ∧ DrAt K H d a ns k ∧ k < 50000 ∧ n ≤ 12 ∧
  ∀ (H' : Hp) (q : Addr) (os : List Int) (k' : Nat), But d H H' → DrAt K H' d a ns k' → k' ≤ k + 12 → os.Perm (rgI n) → H q = none → H' q = some (.lst (os.map V.int)) → Q (.ref q) H'
theorem ok_lo (T : Tx K mg A) : FnOk P w K mg base CX0 4 A.f__law_order A.d__law_order ["draw", "many"] (spLO K) := by
  refine T.F__law_order.ok sc__law_order (fun vs H Q E h => ?_) (fun cdv B outer s H vs Q E hr h => ?_)
  · obtain ⟨d, a, ns, k, n, rfl, _⟩ := h
    rfl
  · obtain ⟨d, a, ns, k, n, rfl, dr, hk, hn, q⟩ := h
    have nd := sc__law_order.nd
    refine ⟨_, (pss_cons (ps_par (i := 2) (j := 3) rfl nd rfl rfl (by decide) rfl rfl (pa_cons (pe_listRg rfl (by rfl) T.g_list (prg_1 (by rfl) T.g_range (pv 1))) (pa_cons (pe_lst pa_nil) pa_nil)) rfl)
      (C8.pss_cut (ps_for PassesOwn.never rfl (pi_range1 rfl T.g_range (pa_cons (pv 1) pa_nil)) (pg_name (i := 4) nd rfl (Or.inl rfl)) (pss_one (ps_expr (pe_bm PySem.F.plainAttrs_list PySem.F.slot_list_append PySem.F.type_list_append mt_append (pv 3) (pa_cons (pe_bm PySem.F.plainAttrs_list PySem.F.slot_list_pop PySem.F.type_list_pop mt_popAt (pv 2) (pa_cons (pe_call (ok_take T) (hr.mono (by decide)) (by rfl) T.m__law_take T.F__law_take.kp (b_take T) .nil pass0 (pa_cons (pv 0) (pa_cons (pe_callB call_len_seq (by rfl) T.g_len PySem.boot_len (pa_cons (pv 2) pa_nil)) pa_nil))) pa_nil)) pa_nil)))))
      (pss_one (ps_ret (pv 3))))), ?_⟩
    refine ⟨_, rfl, _, rfl, RgOk.of_le (by omega) (by omega) (by omega) (by omega), fun L nL => ?_⟩
    refine ⟨Nat.zero_le _, fun O nO => ⟨_, _, rfl, ?_⟩⟩
    have sL : Same H (upd H L (.lst (rgV 0 (n : Nat)))) := Same.up nL
    have nO0 := sL.free nO
    have hLO : O ≠ L := fun z => by
      rw [z, upd_same] at nO
      cases nO
    have hLd : L ≠ d := fun z => by rw [z, dr.l] at nL; cases nL
    have hOd : O ≠ d := fun z => by rw [z, dr.l] at nO0; cases nO0
    have s0 : Same H (upd (upd H L (.lst (rgV 0 (n : Nat)))) O (.lst [])) := sL.trans (Same.up nO)
    refine ⟨fun σ' H' => (∃ x4 : Option V, σ' = [some (.ref d), some (.int n), some (.ref L), some (.ref O), x4]) ∧ ∃ os : List Int, H' O = some (.lst (os.map V.int)) ∧ os.Perm (rgI n) ∧ But d H H' ∧ DrAt K H' d a ns (k + n), ?_, ?_⟩
    · refine ⟨_, rfl, _, rfl, by omega, by omega, ?_⟩
      rw [Int.toNat_natCast]
      refine for_it (walk_range (lo := 0) (n := n)) (fun i σ' H' => (∃ x4 : Option V, σ' = [some (.ref d), some (.int n), some (.ref L), some (.ref O), x4]) ∧ ∃ ls os : List Int, H' L = some (.lst (ls.map V.int)) ∧ H' O = some (.lst (os.map V.int)) ∧ (os ++ ls).Perm (rgI n) ∧ os.length = i ∧ But d H H' ∧ DrAt K H' d a ns (k + i))
        ⟨⟨none, rfl⟩, rgI n, [], ?_, upd_same, List.Perm.refl _, rfl, But.of s0, ⟨s0 _ _ dr.l, dr.n, s0.seq dr.s, dr.h⟩⟩ (fun i σ' H' _ _ => trivial) ?_ ?_
      · rw [upd_ne hLO.symm, upd_same, rg_pl, rgI_pl]
      · rintro i x σ' H2 H3 hi ⟨⟨x4, rfl⟩, ls, os, eL, eO, perm, hoi, b2, dr2⟩ ⟨rfl, ex⟩
        have hln := perm.length_eq
        rw [List.length_append, rgI_len] at hln
        refine ⟨_, rfl, .inl ⟨rfl, _, SqL.of eO⟩, _, rfl, .inl ⟨rfl, _, SqL.of eL⟩, _, rfl, _, rfl, L, _, rfl, .inl (SqL.of eL), ?_⟩
        refine ⟨d, a, ns, k + i, ls.length, by rw [List.length_map]; rfl, dr2, by omega, by omega, fun H4 r b4 dr4 hr4 => ?_⟩
        have eL4 := b4 _ _ hLd eL
        have eO4 := b4 _ _ hOd eO
        refine ⟨L, _, _, r, V.int ls[r], rfl, rfl, eL4, by omega, by omega, ?_, ?_, ?_⟩
        · unfold seqIndex?
          rw [List.length_map]
          simp
          omega
        · rw [List.getElem?_map, List.getElem?_eq_getElem hr4]
          rfl
        have bb : ∀ zs zs2 : List V, But d H (upd (upd H4 L (.lst zs)) O (.lst zs2)) := fun zs zs2 b o hb e => by
          rw [upd_ne (ne_of_none e nO0), upd_ne (ne_of_none e nL)]
          exact b4 _ _ hb (b2 b o hb e)
        have eO5 : ∀ zs : List V, upd H4 L (.lst zs) O = some (.lst (os.map V.int)) := fun zs => by rw [upd_ne hLO]; exact eO4
        refine ⟨O, _, _, rfl, rfl, eO5 _, by rw [List.length_map, sizeLine_eq]; omega, ⟨_, rfl⟩, ls.eraseIdx r, os ++ [ls[r]], ?_, ?_, ?_, by rw [List.length_append, hoi]; rfl, bb _ _, ⟨?_, dr4.n, (bb _ _).seq dr.s dr.n, dr4.h⟩⟩
        · rw [upd_ne hLO.symm, upd_same, era_map]
        · rw [upd_same, List.map_append]
          rfl
        · rw [List.append_assoc]
          exact ((at_perm ls r hr4).append_left os).trans perm
        · rw [upd_ne hOd.symm, upd_ne hLd.symm]
          exact dr4.l
      · rintro σ' H2 ⟨⟨x4, rfl⟩, ls, os, eL, eO, perm, hoi, b2, dr2⟩
        have hln := perm.length_eq
        rw [List.length_append, rgI_len] at hln
        obtain rfl : ls = [] := List.length_eq_zero_iff.mp (by omega)
        rw [List.append_nil] at perm
        exact ⟨⟨x4, rfl⟩, os, eO, perm, b2, dr2⟩
    · rintro σ' H2 ⟨⟨x4, rfl⟩, os, eO, perm, b2, dr2⟩
      exact ⟨_, rfl, q H2 O os _ b2 dr2 (by omega) perm nO0 eO⟩
theorem b_lo (T : Tx K mg A) : L2.Binds K A.d__law_order ["draw", "many"] [] := T.F__law_order.binds fun _ _ _ _ _ _ us hl => match us, hl with | [_, _], _ => rfl
theorem rgI_mem {n : Nat} {x : Int} (h : x ∈ rgI n) : 0 ≤ x ∧ x < n := by
  unfold rgI at h
  obtain ⟨i, hi, rfl⟩ := List.mem_map.mp h
  have := List.mem_range.mp hi
  omega
theorem But.free {d D : Addr} {H H' : Hp} {o : HO} (b : But d H H') (l : H' d = some o) (n : H' D = none) : H D = none := by
  cases e : H D with
  | none => rfl
  | some u =>
    by_cases h : D = d
    · rw [h, l] at n
      cases n
    · rw [b _ _ h e] at n
      cases n
theorem rgI_nodup (n : Nat) : (rgI n).Nodup := by
  unfold rgI
  refine List.nodup_iff_pairwise_ne.mpr (List.pairwise_map.mpr ((List.nodup_iff_pairwise_ne.mp List.nodup_range).imp fun h z => h (by omega)))
def spLun (K : PySem.W.Frag) : Sp := fun vs H Q _ => ∃ (d a : Addr) (ns : List Int) (k n : Nat), vs = [.ref d, .int n] ∧ DrAt K H d a ns k ∧ k < 40000 ∧ n ≤ 12 ∧
  ∀ (H' : Hp) (q : Addr) (ks : List Int) (k' : Nat), But d H H' → DrAt K H' d a ns k' → k' ≤ k + 14 → ks.length = n → ks.Nodup → (∀ z ∈ ks, -1000 ≤ z ∧ z ≤ 1000) → H q = none → H' q = some (.lst (ks.map V.int)) → Q (.ref q) H'
theorem ok_lun (T : Tx K mg A) : FnOk P w K mg base CX0 6 A.f__law_unlike A.d__law_unlike ["draw", "many"] (spLun K) := by
  refine T.F__law_unlike.ok sc__law_unlike (fun vs H Q E h => ?_) (fun cdv B outer s H vs Q E hr h => ?_)
  · obtain ⟨d, a, ns, k, n, rfl, _⟩ := h
    rfl
  · obtain ⟨d, a, ns, k, n, rfl, dr, hk, hn, q⟩ := h
    have nd := sc__law_unlike.nd
    refine ⟨_, (pss_cons (ps_asg (pe_tup (pa_cons (pe_op op_sub (pe_call (ok_take T) (hr.mono (by decide)) (by rfl) T.m__law_take T.F__law_take.kp (b_take T) .nil pass0 (pa_cons (pv 0) (pa_cons pe_int pa_nil))) pe_int) (pa_cons (pe_op op_add pe_int (pe_call (ok_take T) (hr.mono (by decide)) (by rfl) T.m__law_take T.F__law_take.kp (b_take T) .nil pass0 (pa_cons (pv 0) (pa_cons pe_int pa_nil)))) pa_nil))) (pg_tup rfl (pgs_cons (pg_name (i := 2) nd rfl (Or.inr rfl)) (pgs_cons (pg_name (i := 3) nd rfl (Or.inr rfl)) pgs_nil))))
      (pss_one (ps_ret (pe_lc (own := [("number", 4)]) (g := gName 4) (tt := tYes) rfl nd (pi_list (pe_call (ok_lo T) (hr.mono (by decide)) (by rfl) T.m__law_order T.F__law_order.kp (b_lo T) .nil pass0 (pa_cons (pv 0) (pa_cons (pv 1) pa_nil)))) (blkOk_by (own := [("number", 4)]) (N := ["draw", "many", "low", "step", "number"]) (sc := (defScope s__law_unlike)) (by decide +kernel)) (fun _ _ _ _ _ => pg_name (i := 4) nd rfl (Or.inl rfl)) (fun _ _ _ _ _ => pts_nil) (fun _ _ _ _ _ => (pe_op op_add (pv 2) (pe_op op_mul (pv 3) (pv 4)))))))), ?_⟩
    refine ⟨_, rfl, d, a, ns, k, 50, rfl, dr, by omega, by decide, fun H1 r1 b1 dr1 h1 => ⟨_, _, rfl, rfl, ?_⟩⟩
    refine ⟨_, rfl, d, a, ns, k + 1, 5, rfl, dr1, by omega, by decide, fun H2 r2 b2 dr2 h2 => ⟨_, _, rfl, rfl, by show 2 ≤ sizeLine; decide, fun t nt => ?_⟩⟩
    refine ⟨_, _, rfl, SqT.of upd_same, rfl, _, _, rfl, _, _, rfl, rfl, ?_⟩
    have s3 := Same.up (o := .tup [V.int ((r1 : Nat) - 25), V.int (1 + (r2 : Nat))]) nt
    have dr3 := dr2.same s3
    have b3 := (b1.trans b2).trans (But.of s3)
    generalize upd H2 t (.tup [V.int ((r1 : Nat) - 25), V.int (1 + (r2 : Nat))]) = H3 at s3 dr3 b3
    refine ⟨_, rfl, _, rfl, d, a, ns, k + 1 + 1, n, rfl, dr3, by omega, hn, fun H4 c os k' b4 dr4 hk' perm nc ec => ?_⟩
    have hol : os.length = n := perm.length_eq.trans (rgI_len n)
    have hob : ∀ z ∈ os, 0 ≤ z ∧ z < n := fun z hz => rgI_mem (perm.mem_iff.mp hz)
    have hod : os.Nodup := perm.nodup_iff.mpr (rgI_nodup n)
    refine ⟨c, rfl, ⟨_, SqL.of ec⟩, fun D nD => ?_⟩
    refine lc_it (walk_list (xs := os.map V.int)) (fun i H' => Acc H4 D (((os.take i).map fun z => ((r1 : Nat) - 25 : Int) + (1 + (r2 : Nat)) * z).map V.int) H') (by rw [List.take_zero]; exact Acc.start nD) (fun i H' _ ac => SqL.of (ac.s _ _ ec)) ?_ ?_
    · rintro i x H5 H6 hi ac ⟨rfl, hx⟩
      obtain ⟨hi2, rfl⟩ := ints_at hx
      have hz := hob _ (List.getElem_mem hi2)
      refine ⟨rfl, iteT (B := Acc H4 D (((os.take (i + 1)).map fun z => ((r1 : Nat) - 25 : Int) + (1 + (r2 : Nat)) * z).map V.int) H6) ?_⟩
      refine ⟨_, rfl, _, rfl, _, rfl, _, _, rfl, rfl, .inl ⟨by omega, by omega⟩, _, _, rfl, rfl, _, ac.a, small1000 (by rw [List.length_map, List.length_map, List.length_take]; omega), ?_⟩
      rw [← List.take_append_getElem hi2, List.map_append, List.map_append]
      exact ac.push
    · intro H5 ac
      rw [List.length_map, List.take_length] at ac
      refine q H5 D _ k' ((b3.trans b4).trans (But.of ac.s)) (dr4.same ac.s) (by omega) (by rw [List.length_map, hol]) ?_ ?_ ?_ ac.a
      · refine List.nodup_iff_pairwise_ne.mpr (List.pairwise_map.mpr ((List.nodup_iff_pairwise_ne.mp hod).imp fun {x y} h z => h ?_))
        have e : (1 + (r2 : Int)) * x = (1 + (r2 : Int)) * y := by omega
        exact Int.eq_of_mul_eq_mul_left (by omega) e
      · intro z hz
        obtain ⟨y, hy, rfl⟩ := List.mem_map.mp hz
        obtain ⟨y1, y2⟩ := hob y hy
        have m1 : (1 + (r2 : Int)) * y ≤ 5 * y := Int.mul_le_mul_of_nonneg_right (by omega) y1
        have m2 : 0 ≤ (1 + (r2 : Int)) * y := Int.mul_nonneg (by omega) y1
        omega
      · exact But.free (b3.trans b4) dr4.l nD
def spOsh (A : Ad) : Sp := fun vs H Q _ => ∃ (o r w place : Nat) (least one key : Int) (ks : List Int), vs = [.ref o, .ref r, .int least, .int place, .int w] ∧ AtV A.CV H o one key ∧ TkOk H r w ks least place ∧ ∀ H', Same H H' → Q (.bl (decide (ovP w ks place one key))) H'
theorem ok_osh (T : Tx K mg A) : FnOk P w K mg base CX0 12 A.f_v_shows A.d_v_shows ["self", "row", "least", "place", "arms"] (spOsh A) := by
  refine T.F_v_shows.ok sc_v_shows (fun vs H Q E h => ?_) (fun cdv B outer s H vs Q E hr h => ?_)
  · obtain ⟨o, r, w, place, least, one, key, ks, rfl, _⟩ := h
    rfl
  · obtain ⟨o, r, w, place, least, one, key, ks, rfl, ⟨dx, g⟩, h, q⟩ := h
    have nd := sc_v_shows.nd
    have hpl := h.pl
    have hw := h.hw
    have h12 := h.l12
    have hov : overP ks.length w < ks.length := by
      show (ks.length - 1) / w < ks.length
      have := Nat.div_le_self (ks.length - 1) w
      omega
    refine ⟨_, (pss_cons (ps_set (i := 5) nd rfl (Or.inl rfl) (pe_call (ok_ha T) (hr.mono (by decide)) (by rfl) T.m_heap_after T.F_heap_after.kp (b_ha T) .nil pass0 (pa_cons (pv 1) (pa_cons (pv 2) (pa_cons (pv 3) (pa_cons (pv 4) pa_nil))))))
      (pss_cons (ps_set (i := 6) nd rfl (Or.inl rfl) (pe_call (ok_pon T) (hr.mono (by decide)) (by rfl) T.m_place_over_next T.F_place_over_next.kp (b_pon T) .nil pass0 (pa_cons (pv 5) (pa_cons (pv 4) pa_nil))))
      (pss_one (ps_ret (pe_and (pe_cmpR op_eq (pe_fld (pv 0) rfl) (pv 6) (nomark _)) (pe_and (pe_cmpR op_eq (pe_fld (pv 0) rfl) (pe_ix (r := rIx K) ix_seq (pv 5) (pv 6) (fun _ _ => rfl)) (nomark _)) (pe_one (pe_cmpR op_gt (pe_ix (r := rIx K) ix_seq (pv 5) (pv 6) (fun _ _ => rfl)) (pe_ix (r := rIx K) ix_seq (pv 5) (pv 3) (fun _ _ => rfl)) (nomark _))))))))), ?_⟩
    refine ⟨_, rfl, _, rfl, _, rfl, _, rfl, r, w, place, least, ks, rfl, h, fun H1 t s1 e1 => ?_⟩
    refine ⟨_, rfl, _, rfl, t, w, _, rfl, hw, SqT.of e1, by rw [List.length_map]; omega, by rw [List.length_map]; exact h12, fun H2 s2 => ?_⟩
    rw [List.length_map]
    have e2 := s2 _ _ e1
    have s12 := s1.trans s2
    have g2 := s12 _ _ g
    have q := q H2 s12
    refine ⟨_, rfl, o, A.CV, dx, _, _, rfl, g2, T.cTV, T.vPlace, fdV_place _ _, _, rfl, rfl, _, rfl, ?_⟩
    rw [int_deq]
    by_cases h1 : one = ((overP ks.length w : Nat) : Int)
    case neg =>
      rw [show decide (one = (((ks.length - 1) / w : Nat) : Int)) = false from decide_eq_false h1]
      rw [decide_eq_false (show ¬ ovP w ks place one key from fun z => h1 z.1)] at q
      exact iteF q
    rw [show decide (one = (((ks.length - 1) / w : Nat) : Int)) = true from decide_eq_true h1]
    refine iteT ⟨_, rfl, o, A.CV, dx, _, _, rfl, g2, T.cTV, T.vKey, fdV_key _ _, _, rfl, _, rfl, .inr (.inl ⟨t, _, _, _, rfl, rfl, SqT.of e2, key_at hov, rfl, _, rfl, ?_⟩)⟩
    rw [int_deq]
    by_cases h2 : key = keyAt ks (overP ks.length w)
    case neg =>
      rw [decide_eq_false h2]
      rw [decide_eq_false (show ¬ ovP w ks place one key from fun z => h2 z.2.1)] at q
      exact iteF q
    rw [decide_eq_true h2]
    refine iteT ⟨_, rfl, _, rfl, .inr (.inl ⟨t, _, _, _, rfl, rfl, SqT.of e2, key_at hov, ?_⟩)⟩
    refine ⟨_, rfl, _, rfl, .inr (.inl ⟨t, _, _, _, rfl, rfl, SqT.of e2, key_at hpl, ?_⟩)⟩
    refine ⟨_, _, rfl, rfl, ?_⟩
    have ed : decide (ovP w ks place one key) = decide (keyAt ks (overP ks.length w) > keyAt ks place) := by
      unfold ovP
      simp only [h1, h2, true_and]
    rw [ed] at q
    exact q
theorem AtQ.ins {C : Addr} {H : Hp} {p : Addr} {x0 : List Int} (h : AtQ C H p x0) : ∃ dx fs, H p = some (.ins C dx fs) := let ⟨dx, t0, h, e0⟩ := h; ⟨dx, _, h⟩
def spIQ (C : Addr) : Sp := fun vs H Q _ => ∃ (p dx a0 : Nat) (x0 : List Int), vs = [.ref p, .ref a0] ∧ H p = some (.ins C dx []) ∧ (H a0 = some (.lst (x0.map V.int)) ∨ H a0 = some (.tup (x0.map V.int))) ∧ ∀ (H' : Hp), (∀ b o, H b = some o → b ≠ p → H' b = some o) → AtQ C H' p x0 → Q .non H'
theorem ok_iQ (T : Tx K mg A) : FnOk P w K mg base CX0 1 A.f_q___init__ A.d_q___init__ ["self", "row"] (spIQ A.CQ) := by
  refine T.F_q___init__.ok sc_q___init__ (fun vs H Q E h => ?_) (fun cdv B outer s H vs Q E hr h => ?_)
  · obtain ⟨p, dx, a0, x0, rfl, _⟩ := h
    rfl
  · obtain ⟨p, dx, a0, x0, rfl, hp, ha0, q⟩ := h
    refine ⟨_, (pss_one (ps_fld (pv 0) (pe_callTy (r := rTupU) call_tupU (by rfl) T.g_tuple (by decide +kernel) (pa_cons (pv 1) pa_nil)) rfl)), ?_⟩
    have fr : ∀ b o, H b = some o → b ≠ p → H b = some o := fun b o e _ => e
    refine ⟨_, rfl, a0, _, rfl, ha0, fun t0 G0 s0 e0 => ?_⟩
    have hp := s0 _ _ hp
    have fr : ∀ b o, H b = some o → b ≠ p → G0 b = some o := fun b o e n => s0 _ _ (fr b o e n)
    refine ⟨_, rfl, p, A.CQ, dx, _, rfl, hp, T.cTQ, T.qRow, (by show 0 < 1000; decide), ?_⟩
    have fr : ∀ b o, H b = some o → b ≠ p → (upd G0 p (.ins A.CQ dx (putF "row" (.ref t0) ([])))) b = some o := fun b o e n => by rw [upd_ne n]; exact fr b o e n
    have e0 : (upd G0 p (.ins A.CQ dx (putF "row" (.ref t0) ([])))) t0 = _ := (upd_ne (ne_of e0 hp (by intro z; cases z))).trans e0
    have hp : (upd G0 p (.ins A.CQ dx (putF "row" (.ref t0) ([])))) p = _ := upd_same
    exact q _ fr ⟨dx, t0, hp, e0⟩
theorem b_iQ (T : Tx K mg A) : L2.Binds K A.d_q___init__ ["self", "row"] [] := T.F_q___init__.binds fun _ _ _ _ _ _ us hl => match us, hl with | [_, _], _ => rfl
theorem AtV.ins {C : Addr} {H : Hp} {p : Addr} {x0 : Int} {x1 : Int} (h : AtV C H p x0 x1) : ∃ dx fs, H p = some (.ins C dx fs) := let ⟨dx, h⟩ := h; ⟨dx, _, h⟩
def spIV (C : Addr) : Sp := fun vs H Q _ => ∃ (p dx : Nat) (x0 : Int) (x1 : Int), vs = [.ref p, .int x0, .int x1] ∧ H p = some (.ins C dx []) ∧ ∀ (H' : Hp), (∀ b o, H b = some o → b ≠ p → H' b = some o) → AtV C H' p x0 x1 → Q .non H'
theorem ok_iV (T : Tx K mg A) : FnOk P w K mg base CX0 1 A.f_v___init__ A.d_v___init__ ["self", "place", "key"] (spIV A.CV) := by
  refine T.F_v___init__.ok sc_v___init__ (fun vs H Q E h => ?_) (fun cdv B outer s H vs Q E hr h => ?_)
  · obtain ⟨p, dx, x0, x1, rfl, _⟩ := h
    rfl
  · obtain ⟨p, dx, x0, x1, rfl, hp, q⟩ := h
    refine ⟨_, (pss_cons (ps_fld (pv 0) (pv 1) rfl)
      (pss_one (ps_fld (pv 0) (pv 2) rfl))), ?_⟩
    have fr : ∀ b o, H b = some o → b ≠ p → H b = some o := fun b o e _ => e
    refine ⟨_, rfl, _, rfl, p, A.CV, dx, _, rfl, hp, T.cTV, T.vPlace, (by show 0 < 1000; decide), ?_⟩
    have fr : ∀ b o, H b = some o → b ≠ p → (upd H p (.ins A.CV dx (putF "place" (.int x0) ([])))) b = some o := fun b o e n => by rw [upd_ne n]; exact fr b o e n
    have hp : (upd H p (.ins A.CV dx (putF "place" (.int x0) ([])))) p = _ := upd_same
    generalize upd H p (.ins A.CV dx (putF "place" (.int x0) ([]))) = U0 at fr hp
    refine ⟨_, rfl, _, rfl, p, A.CV, dx, _, rfl, hp, T.cTV, T.vKey, (by show 1 < 1000; decide), ?_⟩
    have fr : ∀ b o, H b = some o → b ≠ p → (upd U0 p (.ins A.CV dx (putF "key" (.int x1) (putF "place" (.int x0) ([]))))) b = some o := fun b o e n => by rw [upd_ne n]; exact fr b o e n
    have hp : (upd U0 p (.ins A.CV dx (putF "key" (.int x1) (putF "place" (.int x0) ([]))))) p = _ := upd_same
    exact q _ fr ⟨dx, hp⟩
theorem b_iV (T : Tx K mg A) : L2.Binds K A.d_v___init__ ["self", "place", "key"] [] := T.F_v___init__.binds fun _ _ _ _ _ _ us hl => match us, hl with | [_, _, _], _ => rfl
theorem b_rb (T : Tx K mg A) : L2.Binds K A.d_row_before ["row", "way"] [] := T.F_row_before.binds fun _ _ _ _ _ _ us hl => match us, hl with | [_, _], _ => rfl
theorem cut_from (xs : List V) (k : Nat) : cutV xs (some (k : Int)) none = xs.drop k := by
  unfold cutV
  rw [HT.sIx_none, HT.sIx_nat]
  rcases Nat.le_total k xs.length with h | h
  · rw [Nat.min_eq_left h, List.take_of_length_le (by rw [List.length_drop]; exact Nat.le_refl _)]
  · rw [Nat.min_eq_right h, List.drop_length, List.drop_eq_nil_of_le h, List.take_nil]
/-- t[lo:hi], by what it holds -/
def rSlS (K : PySem.W.Frag) : V → Option Int → Option Int → Hp → VK → Prop := fun x lo hi H Q => ∃ a xs, x = .ref a ∧ SqT K H a xs ∧ ∀ (p : Addr) (H' : Hp), Same H H' → SqT K H' p (cutV xs lo hi) → Q (.ref p) H'
theorem sl_tupS {X : Cx} : SlR X (rSlS X.K) := by
  intro pins s σ H x v vl vu lo hi sl Q I rx hs pl pu h
  obtain ⟨a, xs, ex, hx, q⟩ := h
  refine sl_tupA pins s σ H x v vl vu lo hi sl Q I rx hs pl pu ⟨a, xs, ex, hx, fun y => ?_, fun _ p np => q p _ (Same.up np) (SqT.of upd_same)⟩
  refine q a H (Same.refl _) ?_
  have : cutV xs lo hi = xs := by
    unfold cutV
    rw [y.1, y.2, List.drop_zero, Nat.sub_zero, List.take_length]
  rw [this]
  exact hx
theorem down_get {n w : Nat} (hw : 1 ≤ w) : ∀ (l : List Nat) (p : Nat), p < n → Down n w p l → ∀ j (h : j < l.length), (l[j] - 1) / w = (p :: l).getD j 0 ∧ (p :: l).getD j 0 < n ∧ p < l[j] ∧ l[j] < n
  | [], _, _, _, j, h => absurd h (by simp)
  | b :: l, p, hp, ⟨hb, hd⟩, 0, h => by
    obtain ⟨b1, b2⟩ := kid_in hw hb
    exact ⟨(mem_kid.mp hb).2.2, hp, b1, b2⟩
  | b :: l, p, hp, ⟨hb, hd⟩, j + 1, h => by
    obtain ⟨b1, b2⟩ := kid_in hw hb
    have hj : j < l.length := by simpa using h
    obtain ⟨h1, h2, h3, h4⟩ := down_get hw l b b2 hd j hj
    exact ⟨h1, h2, Nat.lt_trans b1 h3, h4⟩
theorem SqT.put {H : Hp} {a D : Addr} {xs zs : List V} {o : HO} (hD : H D = some (.lst zs)) (h : SqT K H a xs) : SqT K (upd H D o) a xs := by
  rcases h with (h | ⟨o, h⟩) | h
  · exact .inl (.inl (by rw [upd_ne (ne_of h hD (by intro q; cases q))]; exact h))
  · exact .inl (.inr ⟨o, by rw [upd_ne (ne_of h hD (by intro q; cases q))]; exact h⟩)
  · exact .inr h
def rbL (n w : Nat) (R : List Int) (p : Nat) (l : List Nat) (j : Nat) : List Int := (List.range n).map fun q => if q = p then keyAt R (endOf p l) else if q ∈ l.take j then keyAt R ((q - 1) / w) else keyAt R q
theorem rb_len (n w : Nat) (R : List Int) (p : Nat) (l : List Nat) (j : Nat) : (rbL n w R p l j).length = n := by
  unfold rbL
  rw [List.length_map, List.length_range]
theorem ext_key {a b : List Int} (hl : a.length = b.length) (h : ∀ q, q < a.length → keyAt a q = keyAt b q) : a = b :=
  List.ext_getElem hl fun q h1 h2 => by rw [el_key h1, el_key h2, h q h1]
theorem rb_at {n w : Nat} {R : List Int} {p : Nat} {l : List Nat} {j q : Nat} (hq : q < n) : keyAt (rbL n w R p l j) q = if q = p then keyAt R (endOf p l) else if q ∈ l.take j then keyAt R ((q - 1) / w) else keyAt R q := by
  have e : (rbL n w R p l j)[q]? = some (if q = p then keyAt R (endOf p l) else if q ∈ l.take j then keyAt R ((q - 1) / w) else keyAt R q) := by
    unfold rbL
    rw [List.getElem?_map, List.getElem?_range hq]
    rfl
  show (rbL n w R p l j).getD q 0 = _
  rw [List.getD_eq_getElem?_getD, e]
  rfl
theorem rb_zero {n w : Nat} {R : List Int} (hl : R.length = n) {p : Nat} (hp : p < n) (l : List Nat) : R.set p (keyAt R (endOf p l)) = rbL n w R p l 0 := by
  refine ext_key (by rw [List.length_set, rb_len, hl]) fun q h1 => ?_
  rw [List.length_set, hl] at h1
  rw [keyAt_set (by omega), rb_at h1, List.take_zero, if_neg (show ¬ q ∈ [] by simp)]
theorem rb_succ {n w : Nat} (hw : 1 ≤ w) {R : List Int} {p : Nat} (hp : p < n) {l : List Nat} (hd : Down n w p l) {j : Nat} (h : j < l.length) : (rbL n w R p l j).set l[j] (keyAt R ((p :: l).getD j 0)) = rbL n w R p l (j + 1) := by
  obtain ⟨g1, g2, g3, g4⟩ := down_get hw l p hp hd j h
  refine ext_key (by rw [List.length_set, rb_len, rb_len]) fun q h1 => ?_
  rw [List.length_set, rb_len] at h1
  rw [keyAt_set (by rw [rb_len]; exact g4), rb_at h1, rb_at h1, ← List.take_append_getElem h]
  by_cases e : q = l[j]
  · subst e
    rw [if_pos rfl, if_neg (by omega), if_pos (List.mem_append_right _ (List.mem_singleton.mpr rfl)), g1]
  · rw [if_neg e]
    by_cases e2 : q = p
    · rw [if_pos e2, if_pos e2]
    · rw [if_neg e2, if_neg e2]
      by_cases e3 : q ∈ l.take j
      · rw [if_pos e3, if_pos (List.mem_append_left _ e3)]
      · rw [if_neg e3, if_neg fun z => (List.mem_append.mp z).elim e3 fun y => e (List.mem_singleton.mp y)]
theorem rb_end {n w : Nat} (hw : 1 ≤ w) {R : List Int} (hl : R.length = n) {p : Nat} (hp : p < n) {l : List Nat} (hd : Down n w p l) : rbL n w R p l l.length = undoS R (p :: l) := by
  refine ext_key (by rw [undo_len, rb_len, hl]) fun q h1 => ?_
  rw [rb_len] at h1
  rw [undo_at hw hl l p hp hd, rb_at h1, List.take_length]
theorem vi_getD {l : List Nat} {p : Nat} (h : p < l.length) : (vi l)[p]? = some (V.int (l.getD p 0 : Nat)) := by
  unfold vi
  rw [List.getElem?_map, List.getElem?_eq_getElem h, List.getD_eq_getElem?_getD, List.getElem?_eq_getElem h]
  rfl
end
end Tw

set_option Elab.async false
set_option linter.all false
set_option maxRecDepth 100000
set_option maxHeartbeats 2000000
namespace Tw
open PySem PySem.Spec PyProof.Rows L2
section
variable {P : Program} {w : World} {K : PySem.W.Frag} {mg : Str → Option Value} {base : Heap} {A : Ad}
open LamX (ExtN Tabs TabS)
theorem vi_cons (p : Nat) (l : List Nat) : vi (p :: l) = V.int (p : Nat) :: vi l := rfl
theorem vi_last (p : Nat) (l : List Nat) : atI (vi (p :: l)) (-1) = some (V.int ((endOf p l : Nat) : Int)) := by
  rw [vi_wz]
  have := last_wz (l := [p] ++ l) (by simp)
  rw [last_end] at this
  exact this
theorem vi_first (p : Nat) (l : List Nat) : atI (vi (p :: l)) 0 = some (V.int ((p : Nat) : Int)) := by
  show atI (vi (p :: l)) ((0 : Nat) : Int) = _
  exact atI_nat rfl
def spRb (K : PySem.W.Frag) : Sp := fun vs H Q _ => ∃ (a b p n w : Nat) (R : List Int) (l : List Nat), vs = [.ref a, .ref b] ∧ H a = some (.tup (R.map V.int)) ∧ SqT K H b (vi (p :: l)) ∧ R.length = n ∧ n ≤ 12 ∧ 1 ≤ w ∧ p < n ∧ Down n w p l ∧
  ∀ (H' : Hp) (t : Addr), Same H H' → H' t = some (.tup ((undoS R (p :: l)).map V.int)) → Q (.ref t) H'
theorem ok_rb (T : Tx K mg A) : FnOk P w K mg base CX0 1 A.f_row_before A.d_row_before ["row", "way"] (spRb K) := by
  refine T.F_row_before.ok sc_row_before (fun vs H Q E h => ?_) (fun cdv B outer s H vs Q E hr h => ?_)
  · obtain ⟨a, b, p, n, w, R, l, rfl, _⟩ := h
    rfl
  · obtain ⟨a, b, p, n, w, R, l, rfl, ha, hb, hl, hn, hw, hp, hd, q⟩ := h
    have nd := sc_row_before.nd
    obtain ⟨_, _, he⟩ := down_lt hw l p hp hd
    refine ⟨_, PSs.nox (C8.pss_cut (ps_set (i := 2) nd rfl (Or.inl rfl) (pe_callTy call_list_of (by rfl) T.g_list (by decide +kernel) (pa_cons (pv 0) pa_nil)))
      (C8.pss_cut (ps_asg (pe_ix (r := rIxT K) ix_tup (pv 0) (pe_ix (r := rIxT K) ix_tup (pv 1) (pe_un un_neg pe_int) (fun _ _ => rfl)) (fun _ _ => rfl)) (pg_sub (pv 2) (pe_ix (r := rIxT K) ix_tup (pv 1) pe_int (fun _ _ => rfl)) set_list))
      (C8.pss_cut (ps_for PassesOwn.never rfl (RZ.pi_zipA (by rfl) T.g_zip (pa_cons (pv 1) (pa_cons (pe_slice (r := rSlS K) sl_tupS (pv 1) (po_some pe_int) po_none) pa_nil))) (pg_tup rfl (pgs_cons (pg_name (i := 3) nd rfl (Or.inl rfl)) (pgs_cons (pg_name (i := 4) nd rfl (Or.inl rfl)) pgs_nil))) (pss_one (ps_asg (pe_ix (r := rIxT K) ix_tup (pv 0) (pv 3) (fun _ _ => rfl)) (pg_sub (pv 2) (pv 4) set_list))))
      (pss_one (ps_ret (pe_callTy call_tuple_of (by rfl) T.g_tuple (by decide +kernel) (pa_cons (pv 2) pa_nil))))))), ?_⟩
    refine ⟨fun σ' H' => ∃ D : Addr, σ' = [some (.ref a), some (.ref b), some (.ref D), none, none] ∧ Acc H D (R.map V.int) H', ?_, ?_⟩
    · exact ⟨_, rfl, a, _, rfl, .inr (SqT.of ha), fun D nD => ⟨D, rfl, Same.up nD, nD, upd_same⟩⟩
    rintro σ' H1 ⟨D, rfl, ac1⟩
    refine ⟨fun σ' H' => σ' = [some (.ref a), some (.ref b), some (.ref D), none, none] ∧ Acc H D ((rbL n w R p l 0).map V.int) H', ?_, ?_⟩
    · refine ⟨_, rfl, _, rfl, _, rfl, b, _, _, _, rfl, rfl, SqT.sm ac1.s hb, vi_last p l, a, _, _, _, rfl, rfl, SqT.of (ac1.s _ _ ha), key_at (by omega), ?_⟩
      refine ⟨_, rfl, _, rfl, b, _, _, _, rfl, rfl, SqT.sm ac1.s hb, vi_first p l, D, _, _, p, rfl, rfl, ac1.a, ixN_nat (by rw [List.length_map]; omega), rfl, ?_⟩
      rw [set_int, rb_zero hl hp]
      exact ac1.push
    rintro σ' H2 ⟨rfl, ac2⟩
    refine ⟨fun σ' H' => (∃ x3 x4 : Option V, σ' = [some (.ref a), some (.ref b), some (.ref D), x3, x4]) ∧ Acc H D ((undoS R (p :: l)).map V.int) H', ?_, ?_⟩
    · refine ⟨_, rfl, _, rfl, _, rfl, b, _, rfl, SqT.sm ac2.s hb, fun u H3 s3 eu => ?_⟩
      have ac3 := ac2.same s3
      rw [show (1 : Int) = ((1 : Nat) : Int) from rfl, cut_from, vi_cons, List.drop_one, List.tail_cons] at eu
      have hb3 := SqT.sm ac3.s hb
      refine ⟨b, u, _, _, rfl, .inr ⟨hb3, eu, for_it (walk_zipT (n := l.length) (by rw [List.length_cons, vi_len]; omega)) (fun j σ' H' => (∃ x3 x4 : Option V, σ' = [some (.ref a), some (.ref b), some (.ref D), x3, x4]) ∧ Acc H D ((rbL n w R p l j).map V.int) H' ∧ SqT K H' b (V.int (p : Nat) :: vi l) ∧ SqT K H' u (vi l)) ⟨⟨none, none, rfl⟩, ac3, hb3, eu⟩ (fun j σ' H' _ h => ⟨h.2.2.1, h.2.2.2⟩) ?_ ?_⟩⟩
      · rintro j v σ' H4 H5 hj ⟨⟨x3, x4, rfl⟩, ac, sb, su⟩ ⟨T', x, y, rfl, hT, rfl, e1, e2⟩
        have e1 : (vi (p :: l))[j]? = some x := e1
        rw [vi_getD (by rw [List.length_cons]; omega)] at e1
        have e2 : (vi l)[j]? = some y := e2
        rw [vi_getD hj] at e2
        cases e1
        cases e2
        have el : l.getD j 0 = l[j] := by rw [List.getD_eq_getElem?_getD, List.getElem?_eq_getElem hj]; rfl
        rw [el]
        obtain ⟨g1, g2, g3, g4⟩ := down_get hw l p hp hd j hj
        refine ⟨_, _, rfl, SqT.of upd_same, rfl, _, _, rfl, _, _, rfl, rfl, ?_⟩
        have s5 := Same.up (o := .tup [V.int ((p :: l).getD j 0 : Nat), V.int (l[j] : Nat)]) hT
        have ac5 := ac.same s5
        have sb5 := SqT.sm s5 sb
        have su5 := SqT.sm s5 su
        generalize upd H4 T' (.tup [V.int ((p :: l).getD j 0 : Nat), V.int (l[j] : Nat)]) = G at ac5 sb5 su5
        refine ⟨_, rfl, _, rfl, a, _, _, _, rfl, rfl, SqT.of (ac5.s _ _ ha), key_at (by omega), _, rfl, _, rfl, D, _, _, l[j], rfl, rfl, ac5.a, ixN_nat (by rw [List.length_map, rb_len]; exact g4), ?_⟩
        rw [set_int, rb_succ hw hp hd hj]
        exact ⟨⟨_, _, rfl⟩, ac5.push, SqT.put ac5.a sb5, SqT.put ac5.a su5⟩
      · rintro σ' H4 ⟨⟨x3, x4, rfl⟩, ac, _, _⟩
        rw [rb_end hw hl hp hd] at ac
        exact ⟨⟨_, _, rfl⟩, ac⟩
    rintro σ' H3 ⟨⟨x3, x4, rfl⟩, ac3⟩
    exact ⟨_, rfl, D, _, rfl, .inl ⟨SqL.of ac3.a, fun t nt => q _ t (ac3.s.trans (Same.up nt)) upd_same⟩⟩
theorem cut_to (xs : List V) (k : Nat) : cutV xs none (some (k : Int)) = xs.take k := by
  unfold cutV
  rw [HT.sIx_none, HT.sIx_nat, List.drop_zero, Nat.sub_zero]
  rcases Nat.le_total k xs.length with h | h
  · rw [Nat.min_eq_left h]
  · rw [Nat.min_eq_right h, List.take_length, List.take_of_length_le h]
theorem way_of {n w place : Nat} (hw : 1 ≤ w ∧ w ≤ 4) (hn : n ≤ 12) (hp : place < n) : ∃ l, Down n w 0 l ∧ endOf 0 l = place ∧ wayL w place = 0 :: l := by
  obtain ⟨l, h1, h2⟩ := of_sub hw hn place place 0 (Nat.le_refl _) hp (root_way w (by omega) place (by omega) hw.1)
  refine ⟨l, h1, h2, ?_⟩
  have := way_down hw hn l 0 (by omega) h1
  rw [h2, way_zero w (by omega) hw.1] at this
  exact this
def spUt (A : Ad) : Sp := fun vs H Q _ => ∃ (r w place : Nat) (least : Int) (ks : List Int), vs = [.ref r, .int least, .int place, .int w] ∧ TkOk H r w ks least place ∧
  ∀ H' q, Same H H' → ((keyAt ks (overP ks.length w) > keyAt ks place ∧ AtV A.CV H' q (overP ks.length w : Nat) (keyAt ks (overP ks.length w))) ∨ (¬ keyAt ks (overP ks.length w) > keyAt ks place ∧ AtQ A.CQ H' q (ahdL w ks least place))) → Q (.ref q) H'
theorem ok_ut (T : Tx K mg A) : FnOk P w K mg base CX0 12 A.f_undo_take A.d_undo_take ["row", "least", "place", "arms"] (spUt A) := by
  obtain ⟨mo, ko⟩ := kb_of T
  refine T.F_undo_take.ok sc_undo_take (fun vs H Q E h => ?_) (fun cdv B outer s H vs Q E hr h => ?_)
  · obtain ⟨r, w, place, least, ks, rfl, _⟩ := h
    rfl
  · obtain ⟨r, w, place, least, ks, rfl, h, q⟩ := h
    have nd := sc_undo_take.nd
    have hpl := h.pl
    have hw := h.hw
    have h12 := h.l12
    have hov : overP ks.length w < ks.length := by
      show (ks.length - 1) / w < ks.length
      have := Nat.div_le_self (ks.length - 1) w
      omega
    refine ⟨_, PSs.nox (pss_cons (ps_set (i := 4) nd rfl (Or.inl rfl) (pe_call (ok_ha T) (hr.mono (by decide)) (by rfl) T.m_heap_after T.F_heap_after.kp (b_ha T) .nil pass0 (pa_cons (pv 0) (pa_cons (pv 1) (pa_cons (pv 2) (pa_cons (pv 3) pa_nil))))))
      (pss_cons (ps_set (i := 5) nd rfl (Or.inl rfl) (pe_call (ok_pon T) (hr.mono (by decide)) (by rfl) T.m_place_over_next T.F_place_over_next.kp (b_pon T) .nil pass0 (pa_cons (pv 4) (pa_cons (pv 3) pa_nil))))
      (pss_cons (ps_if (pt_cmpR op_gt (pe_ix (r := rIx K) ix_seq (pv 4) (pv 5) (fun _ _ => rfl)) (pe_ix (r := rIx K) ix_seq (pv 4) (pv 2) (fun _ _ => rfl)) (nomark _)) (pss_one (ps_ret (pe_make T.mkCV (ok_iV T) (hr.mono (by decide)) (by rfl) T.mCV (b_iV T) .nil pass0 (pa_cons (pv 5) (pa_cons (pe_ix (r := rIx K) ix_seq (pv 4) (pv 5) (fun _ _ => rfl)) pa_nil))))) pss_nil)
      (pss_cons (ps_set (i := 6) nd rfl (Or.inl rfl) (pe_call (ok_rb T) (hr.mono (by decide)) (by rfl) T.m_row_before T.F_row_before.kp (b_rb T) .nil pass0 (pa_cons (pv 4) (pa_cons (pe_meth (pe_cmethK (pe_glob (v := .ref A.C) (by rfl) T.mC (relR _)) T.cr T.cof (ok_of T) (hr.mono (by decide)) ko pass0 (pa_cons (pv 4) pa_nil) (pk_cons (pv 3) pk_nil)) T.cT T.M_t_way_to (ok_way T) (hr.mono (by decide)) (b_way T) .nil pass0 (pa_cons (pv 2) pa_nil)) pa_nil))))
      (pss_one (ps_ret (pe_make T.mkCQ (ok_iQ T) (hr.mono (by decide)) (by rfl) T.mCQ (b_iQ T) .nil pass0 (pa_cons (pe_op (r := rCatU) op_catU (pe_op (r := rCatU) op_catU (pe_tup (pa_cons (pv 1) pa_nil)) (pe_slice (r := rSlU) sl_tupU (pv 6) (po_some pe_int) po_none)) (pe_slice (r := rSlU) sl_tupU (pv 6) po_none (po_some pe_int))) pa_nil)))))))), ?_⟩
    refine ⟨_, rfl, _, rfl, _, rfl, _, rfl, r, w, place, least, ks, rfl, h, fun H1 t s1 e1 => ?_⟩
    refine ⟨_, rfl, _, rfl, t, w, _, rfl, hw, SqT.of e1, by rw [List.length_map]; omega, by rw [List.length_map]; exact h12, fun H2 s2 => ?_⟩
    rw [List.length_map]
    have e2 := s2 _ _ e1
    refine ⟨_, rfl, _, rfl, .inr (.inl ⟨t, _, _, _, rfl, rfl, SqT.of e2, key_at hov, ?_⟩)⟩
    refine ⟨_, rfl, _, rfl, .inr (.inl ⟨t, _, _, _, rfl, rfl, SqT.of e2, key_at hpl, ?_⟩)⟩
    refine ⟨_, _, rfl, rfl, _, rfl, ?_⟩
    by_cases hgt : keyAt ks (overP ks.length w) > keyAt ks place
    · rw [decide_eq_true hgt]
      refine iteT ⟨_, rfl, _, rfl, _, rfl, .inr (.inl ⟨t, _, _, _, rfl, rfl, SqT.of e2, key_at hov, fun x dx nx ndx nex => ?_⟩)⟩
      exact ⟨x, dx, _, _, rfl, upd_same, fun H3 k3 st => ⟨rfl, q H3 x (s1.trans (s2.trans (new_same nx ndx k3))) (.inl ⟨hgt, st⟩)⟩⟩
    · rw [decide_eq_false hgt]
      refine iteF ⟨_, rfl, rfl, _, rfl, _, rfl, rfl, rfl, t, w, ks, rfl, hw, .inr e2, h.row.2.1, h.row.2.2, fun H3 tr s3 p0 t3 => ?_⟩
      obtain ⟨dx, l, g1, g2⟩ := id t3.ob
      have noW : (tf ks.length w l).lookup ("way_to" : Str) = none := tf_no _ _ _ (by decide +kernel) (by decide +kernel) (by decide +kernel)
      obtain ⟨wl, d1, d2, d3⟩ := way_of hw (by omega : ks.length ≤ 12) hpl
      refine ⟨tr, dx, _, rfl, g1, noW, _, rfl, tr, ks.length, w, place, rfl, t3, hpl, fun H4 z s4 n4 e4 => ?_⟩
      rw [d3] at e4
      refine ⟨t, z, 0, ks.length, w, ks, wl, rfl, s4 _ _ (s3 _ _ e2), SqT.of e4, rfl, by omega, hw.1, by omega, d1, fun H5 u s5 e5 => ?_⟩
      rw [← d3] at e5
      obtain ⟨us, eus⟩ : ∃ us, us = undoS ks (wayL w place) := ⟨_, rfl⟩
      have hul : us.length = ks.length := by rw [eus, undo_len]
      rw [← eus] at e5
      refine ⟨_, rfl, by show 1 ≤ sizeLine; decide, fun c nc => ?_⟩
      have s6 := Same.up (o := .tup [V.int least]) nc
      have ec := upd_same (H := H5) (a := c) (o := .tup [V.int least])
      have e6 := s6 _ _ e5
      generalize upd H5 c (.tup [V.int least]) = H6 at s6 ec e6
      refine ⟨_, rfl, _, rfl, u, _, rfl, e6, fun f H7 s7 e7 => ?_⟩
      rw [show (1 : Int) = ((1 : Nat) : Int) from rfl, cut_from] at e7
      refine ⟨c, f, _, _, rfl, rfl, s7 _ _ ec, e7, by rw [List.length_drop, List.length_map, List.length_singleton, sizeLine_eq]; omega, fun g H8 s8 e8 => ?_⟩
      refine ⟨_, rfl, _, rfl, u, _, rfl, s8 _ _ (s7 _ _ e6), fun k H9 s9 e9 => ?_⟩
      rw [show (1 : Int) = ((1 : Nat) : Int) from rfl, cut_to] at e9
      refine ⟨g, k, _, _, rfl, rfl, s9 _ _ e8, e9, by rw [List.length_append, List.length_drop, List.length_take, List.length_map, List.length_singleton, sizeLine_eq]; omega, fun b G1 s10 e10 => ?_⟩
      have eb : G1 b = some (.tup ((ahdL w ks least place).map V.int)) := by
        rw [e10]
        unfold ahdL
        rw [← eus, List.map_cons, List.map_append, List.map_drop, List.map_take]
        rfl
      refine fun x dx3 nx ndx nex => ?_
      have s11 := new_up (C := A.CQ) nx ndx nex
      exact ⟨x, dx3, b, _, rfl, upd_same, .inr (s11 _ _ eb), fun G2 k2 st => ⟨rfl, q G2 x (s1.trans (s2.trans (s3.trans (s4.trans (s5.trans (s6.trans (s7.trans (s8.trans (s9.trans (s10.trans (new_same nx ndx k2))))))))))) (.inr ⟨hgt, st⟩)⟩⟩
theorem q4 : ¬ (("stops" : Str) = "looks") := by decide +kernel
abbrev rLn (K : PySem.W.Frag) : List V → Hp → VK → Prop := fun xs H Q => ∃ p ys, xs = [.ref p] ∧ (SqL K H p ys ∨ SqT K H p ys) ∧ Q (.int ys.length) H
theorem refl_of {d : PyData} (h : SeqAt.shaped d = true) : PyData.eqv d d = true := PySem.SeqAt.eqv_refl d (SeqAt.canLay_of_shaped h)
theorem tabs_but {T : List (Addr × Str)} {H H' : Hp} {d : Addr} {xs : List V} (t : Tabs T H) (h : H d = some (.lst xs)) (b : But d H H') : Tabs T H' := fun p hp => by
  obtain ⟨ps, h1, h2, h3⟩ := t p hp
  refine ⟨ps, b _ _ (ne_of h1 h (by intro z; cases z)) h1, h2, fun pos cv hc => ?_⟩
  obtain ⟨c, e1, e2⟩ := h3 pos cv hc
  exact ⟨c, e1, b _ _ (ne_of e2 h (by intro z; unfold LamX.CodeO at z; cases z)) e2⟩
end
end Tw

set_option Elab.async false
set_option linter.all false
set_option maxRecDepth 100000
set_option maxHeartbeats 2000000
namespace Tw
open PySem PySem.Spec PyProof.Rows L2
section
variable {P : Program} {w : World} {K : PySem.W.Frag} {mg : Str → Option Value} {base : Heap} {A : Ad}
open LamX (ExtN Tabs TabS)
/-! the law: ints_dp ints_shT vi_app key_at Acc Acc.push Acc.start HpD RowsAt.ext keyAt_mem behB behL overP keyAt AtV.same AtQ.same AtV.ext AtQ.ext ahdL fdQ_row fdV_place fdV_key fdQ_shows fdV_shows kB allH_mem allH_asc ok_lh spLH ok_lout spLOut DueAt DueAt.same ok_lun ok_take ok_arm ok_ut kb_ut spUt TkOk AtQ AtV ok_bsh ok_osh spBsh spOsh befP ovP ok_hm kb_hm spHm ok_pbe kpb bd_pb tabs_but DrAt.start SqL RowsAt RowsAt.get RowsAt.same TT LamX.TabB LamX.ExtN DrAt DrAt.ext DrAt.same But But.of But.trans But.put extN_of vi vi_len dl_shapedL dl_emp dp_lst refl_of -/
def DnAt (P : Program) (W : World) (v : Nat) (R : Addr) (xs : List Nd.En) (ls : List (List Int)) (H : Hp) : Prop := H R = some (Nd.ND P W R xs) ∧ Nd.KOk H xs ∧ Paired (fun (e : Nd.En) bs => e.1 = kB v bs ∧ H e.2.2 = some (.tup (bs.map V.int))) xs ls
theorem nd_tbl {P : Program} {W : World} {R : Addr} {xs : List Nd.En} : ∀ ps, Nd.ND P W R xs ≠ .tbl ps := fun _ z => by
  unfold Nd.ND at z
  cases z
theorem DnAt.ext {P : Program} {W : World} {v : Nat} {R : Addr} {xs : List Nd.En} {ls : List (List Int)} {H H' : Hp} (h : DnAt P W v R xs ls H) (e : LamX.ExtN H H') : DnAt P W v R xs ls H' :=
  ⟨e _ _ h.1 nd_tbl, fun x hx => let ⟨t, a, b⟩ := h.2.1 x hx; ⟨t, e _ _ a (fun _ z => nomatch z), e _ _ b (fun _ z => nomatch z)⟩, L2.Paired.mapP h.2.2 fun _ _ ⟨a, b⟩ => ⟨a, e _ _ b (fun _ z => nomatch z)⟩⟩
theorem DnAt.same {P : Program} {W : World} {v : Nat} {R : Addr} {xs : List Nd.En} {ls : List (List Int)} {H H' : Hp} (h : DnAt P W v R xs ls H) (s : Same H H') : DnAt P W v R xs ls H' := h.ext (extN_of s)
theorem nd_ne {P : Program} {W : World} {R b : Addr} {xs : List Nd.En} {o : HO} {H : Hp} (e : H R = some (Nd.ND P W R xs)) (eb : H b = some o) (hn : ∀ P W xs, Nd.ND P W R xs ≠ o) : b ≠ R := fun z => by
  rw [z, e] at eb
  exact hn P W xs (by injection eb)
theorem tabs_new {T : List (Addr × Str)} {R : Addr} {H H' : Hp} (t : Tabs T H) (n : H R = none) (b : But R H H') : Tabs T H' := fun p hp => by
  obtain ⟨ps, h1, h2, h3⟩ := t p hp
  refine ⟨ps, b _ _ (ne_of_none h1 n) h1, h2, fun pos cv hc => ?_⟩
  obtain ⟨c, e1, e2⟩ := h3 pos cv hc
  exact ⟨c, e1, b _ _ (ne_of_none e2 n) e2⟩
theorem take_way {n w : Nat} {bs : List Int} (hw : 1 ≤ w ∧ w ≤ 4) (hn : n ≤ 11) (h1 : 1 ≤ n) (hl : bs.length = n + 1) : 1 ≤ (takeR bs w).2.1.length := by
  unfold takeR
  rw [if_neg (by omega), hl, Nat.add_sub_cancel]
  obtain ⟨l, _, d2, _⟩ := down_undo (n := n) hw.1 20 (outRow bs) 0 [0] 0 (by rw [outRow_len (by omega), hl]; omega) (by omega)
  rw [d2, List.length_append]
  show 1 ≤ 1 + _
  omega
theorem how_small : ∀ w, w < 5 → ∀ n, n < 7 → 1 ≤ w → howN n w ≤ 720 := by decide +kernel
def FD (A : Ad) (v : Nat) (h : List Int) (least : Int) (p : Nat) (q : Addr) (x : V) (H : Hp) : Prop :=
  (keyAt h (overP h.length v) > keyAt h p ∧ AtV A.CV H q (overP h.length v : Nat) (keyAt h (overP h.length v)) ∧ x = .non) ∨ (¬ keyAt h (overP h.length v) > keyAt h p ∧ AtQ A.CQ H q (ahdL v h least p) ∧ ∃ c, x = .ref c ∧ H c = some (.tup ((ahdL v h least p).map V.int)))
theorem FD.ext {A : Ad} {v p : Nat} {h : List Int} {least : Int} {q : Addr} {x : V} {H H' : Hp} (f : FD A v h least p q x H) (e : LamX.ExtN H H') : FD A v h least p q x H' :=
  f.imp (fun z => ⟨z.1, z.2.1.ext e, z.2.2⟩) (fun z => ⟨z.1, z.2.1.ext e, let ⟨c, a, b⟩ := z.2.2; ⟨c, a, e _ _ b (fun _ z => nomatch z)⟩⟩)
theorem dn_some {v : Nat} {H : Hp} {k : Nd.Pk} {c : Addr} : ∀ {xs : List Nd.En} {ls : List (List Int)}, Paired (fun (e : Nd.En) bs => e.1 = kB v bs ∧ H e.2.2 = some (.tup (bs.map V.int))) xs ls → Nd.valN xs k = some c → ∃ bs ∈ ls, kB v bs = k ∧ H c = some (.tup (bs.map V.int))
  | _, _, .nil, h => by cases h
  | e :: xs, bs :: ls, .cons ⟨h1, h2⟩ t, h => by
    unfold Nd.valN at h
    rw [List.find?_cons] at h
    by_cases hk : e.1 = k
    · rw [decide_eq_true hk] at h
      have h : some e.2.2 = some c := h
      have h : e.2.2 = c := by injection h
      exact ⟨bs, List.mem_cons_self, h1.symm.trans hk, h ▸ h2⟩
    · rw [decide_eq_false hk] at h
      obtain ⟨cs, a, b⟩ := dn_some t h
      exact ⟨cs, List.mem_cons_of_mem _ a, b⟩
theorem dn_none {v : Nat} {H : Hp} {k : Nd.Pk} : ∀ {xs : List Nd.En} {ls : List (List Int)}, Paired (fun (e : Nd.En) bs => e.1 = kB v bs ∧ H e.2.2 = some (.tup (bs.map V.int))) xs ls → (Nd.valN xs k = none ↔ ∀ bs ∈ ls, kB v bs ≠ k)
  | _, _, .nil => ⟨fun _ bs hb => (nomatch hb), fun _ => rfl⟩
  | e :: xs, bs :: ls, .cons ⟨h1, h2⟩ t => by
    have ih := dn_none (k := k) t
    unfold Nd.valN at ih ⊢
    rw [List.find?_cons]
    by_cases hk : e.1 = k
    · rw [decide_eq_true hk]
      exact ⟨fun h => (by cases h), fun h => absurd (h1.symm.trans hk) (h bs List.mem_cons_self)⟩
    · rw [decide_eq_false hk]
      refine ⟨fun h cs hc => ?_, fun h => ih.mpr fun cs hc => h cs (List.mem_cons_of_mem _ hc)⟩
      rcases List.mem_cons.mp hc with rfl | hc
      · exact fun z => hk (h1.trans z)
      · exact ih.mp h cs hc
theorem dn_push {F : Nd.En → List Int → Prop} {e : Nd.En} {bs : List Int} (h : F e bs) : ∀ {xs : List Nd.En} {ls : List (List Int)}, Paired F xs ls → Paired F (xs ++ [e]) (ls ++ [bs])
  | _, _, .nil => .cons h .nil
  | _, _, .cons a b => .cons a (dn_push h b)
def spLaw (K : PySem.W.Frag) (A : Ad) : Sp := fun vs H Q _ => ∃ (a : Addr) (ns : List Int), vs = [.ref a] ∧ SqL K H a (ns.map V.int) ∧ ns.length ≤ 63 ∧ Tabs (TT A) H ∧ ∀ H', Q (.bl true) H'
theorem ok_law (T : Tx K mg A) (TB : LamX.TabB base mg A.c_least_child A.P_least_child) : FnOk P w K mg base CX0 15 A.f_law A.d_law ["script"] (spLaw K A) := by
  obtain ⟨mu, kut⟩ := kb_ut T
  obtain ⟨mq, kqs⟩ := kbsh T
  obtain ⟨mv, kvs⟩ := kosh T
  obtain ⟨mp, kpb⟩ := kpb T
  obtain ⟨mh, khm⟩ := kb_hm T
  obtain ⟨dpb, rpb, bpb⟩ := bd_pb T
  refine T.F_law.ok sc_law (fun vs H Q E h => ?_) (fun cdv B outer s H vs Q E hr h => ?_)
  · obtain ⟨a, ns, rfl, _⟩ := h
    rfl
  · obtain ⟨a, ns, rfl, ha, hl, hT, q⟩ := h
    have nd := sc_law.nd
    have hu : (B.deeper (envOfC "law" (defScope s_law) s.heap.objs.size A.f_law cdv)).units + 64 < cLine := hr.units
    refine ⟨_, PSs.nox (pss_cons (ps_set (i := 1) nd rfl (Or.inl rfl) (pe_lst (pa_cons (pv 0) (pa_cons pe_int pa_nil))))
      (C8.pss_cut (ps_par (i := 2) (j := 3) rfl nd rfl rfl (by decide) rfl rfl (pa_cons (pe_call (ok_arm T) (hr.mono (by decide)) (by rfl) T.m__law_arms T.F__law_arms.kp (b_arm T) .nil pass0 (pa_cons (pv 1) pa_nil)) (pa_cons (pe_op op_add pe_int (pe_call (ok_take T) (hr.mono (by decide)) (by rfl) T.m__law_take T.F__law_take.kp (b_take T) .nil pass0 (pa_cons (pv 1) (pa_cons pe_int pa_nil)))) pa_nil)) rfl)
      (C8.pss_cut (ps_set (i := 4) nd rfl (Or.inl rfl) (pe_call (ok_lun T) (hr.mono (by decide)) (by rfl) T.m__law_unlike T.F__law_unlike.kp (b_lun T) .nil pass0 (pa_cons (pv 1) (pa_cons (pv 3) pa_nil))))
      (C8.pss_cut (ps_set (i := 5) nd rfl (Or.inl rfl) (pe_op op_sub (pe_op op_sub (pe_callB (r := rMin K) (cr_min rfl) (by rfl) T.g_min (by decide +kernel) (pa_cons (pv 4) pa_nil)) pe_int) (pe_call (ok_take T) (hr.mono (by decide)) (by rfl) T.m__law_take T.F__law_take.kp (b_take T) .nil pass0 (pa_cons (pv 1) (pa_cons pe_int pa_nil)))))
      (C8.pss_cut (ps_set (i := 6) nd rfl (Or.inl rfl) Nd.pe_dnewN)
      (C8.pss_cut (ps_for PassesOwn.never rfl (pi_list (pe_call (ok_lh T) (hr.mono (by decide)) (by rfl) T.m__law_heaps T.F__law_heaps.kp (b_lh T) .nil pass0 (pa_cons (pe_op op_cat (pv 4) (pe_lst (pa_cons (pv 5) pa_nil))) (pa_cons (pv 2) pa_nil)))) (pg_name (i := 7) nd rfl (Or.inl rfl)) (C8.pss_cut (ps_asg (pe_call (ok_lout T) (hr.mono (by decide)) (by rfl) T.m__law_out T.F__law_out.kp (b_lout T) .nil pass0 (pa_cons (pv 7) (pa_cons (pv 2) pa_nil))) (pg_tup rfl (pgs_cons (pg_name (i := 8) nd rfl (Or.inl rfl)) (pgs_cons (pg_name (i := 9) nd rfl (Or.inl rfl)) (pgs_cons (pg_name (i := 10) nd rfl (Or.inl rfl)) pgs_nil)))))
      (pss_one (Nd.ps_put hu (pv 6) (pe_tup (pa_cons (pv 8) (pa_cons (pe_ix (r := rIxT K) ix_tup (pv 9) (pe_un un_neg pe_int) (fun _ _ => rfl)) pa_nil))) (pv 7) rfl))))
      (pss_cons (ps_set (i := 11) nd rfl (Or.inl rfl) pe_int)
      (C8.pss_cut (ps_for PassesOwn.never rfl (pi_list (pe_call (ok_lh T) (hr.mono (by decide)) (by rfl) T.m__law_heaps T.F__law_heaps.kp (b_lh T) .nil pass0 (pa_cons (pv 4) (pa_cons (pv 2) pa_nil)))) (pg_name (i := 12) nd rfl (Or.inl rfl)) (C8.pss_cut (ps_set (i := 13) nd rfl (Or.inl rfl) (pe_lst pa_nil))
      (C8.pss_cut (ps_for PassesOwn.never rfl (pi_range1 rfl T.g_range (pa_cons (pv 3) pa_nil)) (pg_name (i := 14) nd rfl (Or.inr rfl)) (C8.pss_cut (ps_set (i := 15) nd rfl (Or.inl rfl) (pe_callN (ok_ut T) (hr.mono (by decide)) (by rfl) T.m_undo_take T.F_undo_take.kp kut pass0 (pa_cons (pv 12) (pa_cons (pv 5) (pa_cons (pv 14) pa_nil))) (pk_cons (pv 2) pk_nil)))
      (C8.pss_cut (ps_set (i := 16) nd rfl (Or.inl rfl) (Nd.pe_get hu (pv 6) (pe_tup (pa_cons (pv 12) (pa_cons (pv 14) pa_nil))) ⟨rfl, rfl, rfl, rfl⟩))
      (C8.pss_cut (ps_if (pt_cmpR op_ne (pe_callB (r := rIsi K) call_isi (by rfl) T.g_isinstance (by decide +kernel) (pa_cons (pv 15) (pa_cons (pe_glob (v := .ref A.CQ) (by rfl) T.mCQ (relR _)) pa_nil))) (pe_cmpR op_notN (pv 16) pe_non (nomark _)) (nomark _)) (pss_one (ps_ret pe_bl)) pss_nil)
      (C8.pss_cut (ps_if (pt_cmpR op_notBl (pe_two (pe_methN (pv 15) T.cTQ T.M_q_shows (ok_bsh T TB) (hr.mono (by decide)) kqs pass0 (pa_cons (pe_callTy (r := rListK K) call_listK (by rfl) T.g_list (by decide +kernel) (pa_cons (pv 12) pa_nil)) (pa_cons (pv 5) (pa_cons (pv 14) pa_nil))) (pk_cons (pv 2) pk_nil)) (pe_methN (pv 15) T.cTV T.M_v_shows (ok_osh T) (hr.mono (by decide)) kvs pass0 (pa_cons (pe_callTy (r := rListK K) call_listK (by rfl) T.g_list (by decide +kernel) (pa_cons (pv 12) pa_nil)) (pa_cons (pv 5) (pa_cons (pv 14) pa_nil))) (pk_cons (pv 2) pk_nil))) pe_bl (nomark _)) (pss_one (ps_ret pe_bl)) pss_nil)
      (C8.pss_cut (ps_if (PW.pt (pw_and (pt_cmpR op_notN (pv 16) pe_non (nomark _)) (pw_and1 (pt_cmpR (op_neD hu) (pe_fld (pv 15) rfl) (pv 16) (nomark _))))) (pss_one (ps_ret pe_bl)) pss_nil)
      (C8.pss_cut (ps_if (PW.pt (pw_and (pt_cmpR op_isN (pv 16) pe_non (nomark _)) (pw_and1 (pt_not (pt_val (pe_callB (r := rIsi K) call_isi (by rfl) T.g_isinstance (by decide +kernel) (pa_cons (pv 15) (pa_cons (pe_glob (v := .ref A.CV) (by rfl) T.mCV (relR _)) pa_nil)))))))) (pss_one (ps_ret pe_bl)) pss_nil)
      (C8.pss_cut (ps_if (PW.pt (pw_and (pt_cmpR op_isN (pv 16) pe_non (nomark _)) (pw_and1 (PW.pt (pw_or (pt_cmpR op_ne (pe_ix (r := rIxT K) ix_tup (pv 12) (pe_fld (pv 15) rfl) (fun _ _ => rfl)) (pe_fld (pv 15) rfl) (nomark _)) (pw_or1 (pt_cmpR op_le (pe_fld (pv 15) rfl) (pe_ix (r := rIxT K) ix_tup (pv 12) (pv 14) (fun _ _ => rfl)) (nomark _)))))))) (pss_one (ps_ret pe_bl)) pss_nil)
      (pss_one (ps_set (i := 13) nd rfl (Or.inl rfl) (pe_op op_cat (pv 13) (pe_lc (own := [("one", 17)]) (g := gName 17) rfl nd (pi_list (pe_lst (pa_cons (pv 16) pa_nil))) (blkOk_by (own := [("one", 17)]) (N := ["script", "draw", "wide", "many", "keys", "least", "rows", "row", "late", "way", "looks", "count", "heap", "able", "place", "found", "due", "one"]) (sc := defScope s_law) (by decide +kernel)) (fun _ _ _ _ _ => pg_name (i := 17) nd rfl (Or.inl rfl)) (fun _ _ _ _ _ => pts_one (pt_cmpR op_notN (pv 17) pe_non (nomark _))) (fun _ _ _ _ _ => (pv 14))))))))))))))
      (C8.pss_cut (ps_if (pt_cmpR (op_neD hu) (pe_callN (ok_pbe T) (hr.mono (by decide)) (by rfl) T.m_places_behind T.F_places_behind.kp kpb pass0 (pa_cons (pv 12) pa_nil) (pk_cons (pv 2) pk_nil)) (pv 13) (nomark _)) (pss_one (ps_ret pe_bl)) pss_nil)
      (C8.pss_cut (ps_if (PW.pt (pw_and (pt_cmpR op_eq (pv 2) pe_int (nomark _)) (pw_and1 (pt_cmpR (op_neD hu) (pe_call (ok_pbe T) (hr.mono (by decide)) (by rfl) T.m_places_behind T.F_places_behind.kp bpb rpb pass0 (pa_cons (pe_callTy (r := rListK K) call_listK (by rfl) T.g_list (by decide +kernel) (pa_cons (pv 12) pa_nil)) pa_nil)) (pv 13) (nomark _))))) (pss_one (ps_ret pe_bl)) pss_nil)
      (pss_one (ps_set (i := 11) nd rfl (Or.inl rfl) (pe_op op_add (pv 11) (pe_callB (r := rLn K) call_len_seq (by rfl) T.g_len PySem.boot_len (pa_cons (pv 13) pa_nil))))))))))
      (C8.pss_cut (ps_if (PW.pt (pw_or (pt_cmpR op_ne (pv 11) (pe_callN (ok_hm T) (hr.mono (by decide)) (by rfl) T.m_how_many T.F_how_many.kp khm pass0 (pa_cons (pe_op op_add (pv 3) pe_int) pa_nil) (pk_cons (pv 2) pk_nil)) (nomark _)) (pw_or1 (pt_cmpR op_ne (pv 11) (pe_callB Nd.call_lenN (by rfl) T.g_len PySem.boot_len (pa_cons (pv 6) pa_nil)) (nomark _))))) (pss_one (ps_ret pe_bl)) pss_nil)
      (pss_one (ps_ret (pe_cmpR (op_eqD hu) (pe_callN (ok_pbe T) (hr.mono (by decide)) (by rfl) T.m_places_behind T.F_places_behind.kp kpb pass0 (pa_cons (pe_lst pa_nil) pa_nil) (pk_cons (pv 2) pk_nil)) (pe_lst pa_nil) (nomark _))))))))))))), ?_⟩
    refine ⟨_, rfl, by show 2 ≤ sizeLine; decide, fun d hd => ?_⟩
    have dr0 : DrAt K _ d a ns 0 := DrAt.start ha hl hd
    have t0 : Tabs (TT A) (upd H d (.lst [.ref a, .int 0])) := hT.ext (Same.up hd)
    refine ⟨fun σ' H' => ∃ (w1 n : Nat), σ' = [some (.ref a), some (.ref d), some (.int w1), some (.int n), none, none, none, none, none, none, none, none, none, none, none, none, none, none] ∧ DrAt K H' d a ns 2 ∧ Tabs (TT A) H' ∧ (1 ≤ w1 ∧ w1 ≤ 4) ∧ (1 ≤ n ∧ n ≤ 5), ?_, ?_⟩
    · refine ⟨_, rfl, d, a, ns, 0, rfl, dr0, by omega, fun H2 w1 b2 dr2 hw => ?_⟩
      have t2 := tabs_but t0 dr0.l b2
      refine ⟨_, rfl, d, a, ns, 1, 5, rfl, dr2, by omega, by decide, fun H3 r b3 dr3 hr5 => ?_⟩
      have t3 := tabs_but t2 dr2.l b3
      refine ⟨_, _, rfl, rfl, _, _, rfl, w1, 1 + r, ?_, dr3, t3, hw, by omega, by omega⟩
      rw [Int.natCast_add]
      rfl
    rintro σ' H2 ⟨w1, n, rfl, dr2, t2, hw, hn⟩
    refine ⟨fun σ' H' => ∃ (q4 : Addr) (ks : List Int) (k : Nat), σ' = [some (.ref a), some (.ref d), some (.int w1), some (.int n), some (.ref q4), none, none, none, none, none, none, none, none, none, none, none, none, none] ∧ DrAt K H' d a ns k ∧ Tabs (TT A) H' ∧ H' q4 = some (.lst (ks.map V.int)) ∧ q4 ≠ d ∧ k ≤ 20 ∧ ks.length = n ∧ ks.Nodup ∧ (∀ z ∈ ks, -1000 ≤ z ∧ z ≤ 1000), ?_, ?_⟩
    · refine ⟨_, rfl, _, rfl, d, a, ns, 2, n, rfl, dr2, by omega, by omega, fun H3 q4 ks k' b3 dr3 hk' hkl hkd hkb n4 e4 => ?_⟩
      exact ⟨q4, ks, k', rfl, dr3, tabs_but t2 dr2.l b3, e4, (ne_of_none dr2.l n4).symm, by omega, hkl, hkd, hkb⟩
    rintro σ' H3 ⟨q4, ks, k, rfl, dr3, t3, e4, hqd, hk, hkl, hkd, hkb⟩
    refine ⟨fun σ' H' => ∃ (least : Int), σ' = [some (.ref a), some (.ref d), some (.int w1), some (.int n), some (.ref q4), some (.int least), none, none, none, none, none, none, none, none, none, none, none, none] ∧ Tabs (TT A) H' ∧ H' q4 = some (.lst (ks.map V.int)) ∧ (∀ z ∈ ks, least < z) ∧ (-2000 ≤ least ∧ least ≤ 1000), ?_, ?_⟩
    · refine ⟨_, rfl, q4, ks, rfl, SqL.of e4, by omega, fun m hm hle => ⟨_, _, rfl, rfl, _, rfl, d, a, ns, k, 9, rfl, dr3, by omega, by decide, fun H4 r b4 dr4 hr9 => ?_⟩⟩
      refine ⟨_, _, rfl, rfl, m - 1 - (r : Int), rfl, tabs_but t3 dr3.l b4, b4 _ _ hqd e4, fun z hz => ?_, ?_⟩
      · have := hle z hz
        omega
      · have := hkb m hm
        omega
    rintro σ' H4 ⟨least, rfl, t4, e4, hlt, hlb⟩
    have hkb9 : ∀ z ∈ ks ++ [least], -1000000000 ≤ z ∧ z ≤ 1000000000 := fun z hz => by
      rcases List.mem_append.mp hz with hz | hz
      · have := hkb z hz
        omega
      · rw [List.mem_singleton.mp hz]
        omega
    have hdN : (ks ++ [least]).Nodup := List.nodup_append.mpr ⟨hkd, List.nodup_cons.mpr ⟨List.not_mem_nil, List.nodup_nil⟩, fun x hx y hy z => by
      rw [List.mem_singleton] at hy
      have := hlt x hx
      omega⟩
    have hdl : (ks ++ [least]).length = n + 1 := by rw [List.length_append, hkl]; rfl
    refine ⟨fun σ' H' => ∃ R : Addr, σ' = [some (.ref a), some (.ref d), some (.int w1), some (.int n), some (.ref q4), some (.int least), some (.ref R), none, none, none, none, none, none, none, none, none, none, none] ∧ H4 R = none ∧ But R H4 H' ∧ H' q4 = some (.lst (ks.map V.int)) ∧ DnAt P w w1 R [] [] H', ?_, ?_⟩
    · exact fun R nR => ⟨R, rfl, nR, But.of (Same.up nR), (Same.up nR) _ _ e4, upd_same, fun x hx => (nomatch hx), .nil⟩
    rintro σ' H5 ⟨R, rfl, nR4, b45, e5, dn5⟩
    refine ⟨fun σ' H' => ∃ (x7 x8 x9 x10 : Option V) (xs : List Nd.En), σ' = [some (.ref a), some (.ref d), some (.int w1), some (.int n), some (.ref q4), some (.int least), some (.ref R), x7, x8, x9, x10, none, none, none, none, none, none, none] ∧ Tabs (TT A) H' ∧ H' q4 = some (.lst (ks.map V.int)) ∧ DnAt P w w1 R xs (allH (ks ++ [least]) w1) H', ?_, ?_⟩
    · refine ⟨_, rfl, _, rfl, by show 1 ≤ sizeLine; decide, fun u nu => ?_⟩
      refine ⟨q4, u, _, _, rfl, rfl, (Same.up nu) _ _ e5, upd_same, by rw [List.length_map, hkl, sizeLine_eq]; show n + 1 ≤ _; omega, fun c nc => ?_⟩
      have s56 := (Same.up (o := .lst [V.int least]) nu).trans (Same.up (o := .lst (ks.map V.int ++ [V.int least])) nc)
      have ec : upd (upd H5 u (.lst [V.int least])) c (.lst (ks.map V.int ++ [V.int least])) c = some (.lst ((ks ++ [least]).map V.int)) := by rw [upd_same, List.map_append]; rfl
      refine ⟨_, rfl, c, w1, ks ++ [least], rfl, hw, ec, by omega, hkb9, fun H7 q7 xs7 s7 n7 e7 r7 => ?_⟩
      have dn7 := (dn5.same s56).same s7
      have e47 := (s56.trans s7) _ _ e5
      have hL := heaps_len hw (show n + 1 ≤ 12 by omega) hdl hdN
      have hLs := how_small w1 (by omega) (n + 1) (by omega) hw.1
      have hxl : xs7.length = (allH (ks ++ [least]) w1).length := Paired.length r7
      refine ⟨q7, rfl, ⟨_, SqL.of e7⟩, ?_⟩
      refine for_it (walk_list (xs := xs7)) (fun i σ' H' => ∃ (x7 x8 x9 x10 : Option V) (xs : List Nd.En), σ' = [some (.ref a), some (.ref d), some (.int w1), some (.int n), some (.ref q4), some (.int least), some (.ref R), x7, x8, x9, x10, none, none, none, none, none, none, none] ∧ But R H7 H' ∧ DnAt P w w1 R xs ((allH (ks ++ [least]) w1).take i) H')
        ⟨none, none, none, none, [], rfl, fun _ _ _ z => z, dn7⟩ (fun i σ' H' _ ⟨_, _, _, _, _, _, b, _⟩ => SqL.of (b _ _ (nd_ne dn7.1 e7 (fun _ _ _ z => by unfold Nd.ND at z; cases z)) e7)) ?_ ?_
      · rintro i y σ' Ho H8 hi ⟨x7, x8, x9, x10, xs, rfl, b8, dn8⟩ ⟨rfl, hy⟩
        obtain ⟨hi2, t, rfl, et⟩ := r7.get hy
        have et8 := b8 _ _ (nd_ne dn7.1 et (fun _ _ _ z => by unfold Nd.ND at z; cases z)) et
        have hbm : (allH (ks ++ [least]) w1)[i] ∈ allH (ks ++ [least]) w1 := List.getElem_mem hi2
        have hnew : ∀ cs ∈ (allH (ks ++ [least]) w1).take i, kB w1 cs ≠ kB w1 (allH (ks ++ [least]) w1)[i] := fun cs hc z => by
          have e := kB_inj hw (show n ≤ 11 by omega) hkl hn.1 hkd hlt (List.mem_of_mem_take hc) hbm z
          obtain ⟨j, hj, ej⟩ := List.getElem_of_mem hc
          rw [List.getElem_take] at ej
          rw [List.length_take] at hj
          have := List.pairwise_iff_getElem.mp (allH_asc (ks ++ [least]) w1) j i (by omega) hi2 (by omega)
          rw [ej, e] at this
          exact List.lt_irrefl _ this
        have hbl := (allH_mem hbm).1.length_eq
        rw [hdl] at hbl
        rw [List.take_succ_eq_append_getElem hi2]
        generalize (allH (ks ++ [least]) w1)[i] = bs at *
        refine ⟨fun σ' H' => ∃ (t1 t2 : Addr) (x10 : Option V), σ' = [some (.ref a), some (.ref d), some (.int w1), some (.int n), some (.ref q4), some (.int least), some (.ref R), some (.ref t), some (.ref t1), some (.ref t2), x10, none, none, none, none, none, none, none] ∧ Same H8 H' ∧ H' t1 = some (.tup ((takeR bs w1).1.map V.int)) ∧ H' t2 = some (.tup (vi (takeR bs w1).2.1)), ?_, ?_⟩
        · refine ⟨_, rfl, _, rfl, t, w1, bs, rfl, hw, .inr et8, by omega, by omega, fun H9 dd s9 due9 => ?_⟩
          obtain ⟨t1, t2, f1, f2, f3⟩ := due9
          exact ⟨_, _, rfl, SqT.of f1, rfl, _, _, rfl, _, _, rfl, _, _, rfl, rfl, t1, t2, _, rfl, s9, f2, f3⟩
        rintro σ' H9 ⟨t1, t2, x10, rfl, s9, f2, f3⟩
        have dn9 := dn8.same s9
        have hwl := take_way hw (show n ≤ 11 by omega) hn.1 hbl
        have hlast : atI (vi (takeR bs w1).2.1) (-1) = some (V.int (lastW (takeR bs w1).2.1 : Nat)) := atV_last (fun i : Nat => V.int (i : Nat)) 0 hwl
        refine ⟨_, rfl, _, rfl, _, rfl, _, rfl, _, rfl, t2, _, -1, _, rfl, rfl, SqT.of f3, hlast, by show 2 ≤ sizeLine; decide, fun u nu => ?_⟩
        have su := Same.up (o := .tup [V.ref t1, V.int (lastW (takeR bs w1).2.1 : Nat)]) nu
        have dnu := dn9.same su
        have hxs : xs.length = ((allH (ks ++ [least]) w1).take i).length := Paired.length dnu.2.2
        rw [List.length_take] at hxs
        refine ⟨R, u, t, t1, xs, kB w1 bs, rfl, rfl, rfl, dnu.1, dnu.2.1, upd_same, su _ _ f2, (dn_none dnu.2.2).mpr hnew, by rw [sizeLine_eq]; omega, some (.ref t), some (.ref t1), some (.ref t2), x10, xs ++ [(kB w1 bs, u, t)], rfl, ?_, upd_same, ?_, ?_⟩
        · exact ((b8.trans (But.of s9)).trans (But.of su)).trans But.put
        · intro x hx
          rcases List.mem_append.mp hx with hx | hx
          · obtain ⟨t0, a0, b0⟩ := dnu.2.1 x hx
            exact ⟨t0, by rw [upd_ne (nd_ne dnu.1 a0 (fun _ _ _ z => by unfold Nd.ND at z; cases z))]; exact a0, by rw [upd_ne (nd_ne dnu.1 b0 (fun _ _ _ z => by unfold Nd.ND at z; cases z))]; exact b0⟩
          · rw [List.mem_singleton.mp hx]
            exact ⟨t1, by rw [upd_ne (nd_ne dnu.1 upd_same (fun _ _ _ z => by unfold Nd.ND at z; cases z))]; exact upd_same, by rw [upd_ne (nd_ne dnu.1 (su _ _ f2) (fun _ _ _ z => by unfold Nd.ND at z; cases z))]; exact su _ _ f2⟩
        · have ett := (s9.trans su) _ _ et8
          refine dn_push ⟨rfl, by rw [upd_ne (nd_ne dnu.1 ett (fun _ _ _ z => by unfold Nd.ND at z; cases z))]; exact ett⟩ (L2.Paired.mapP dnu.2.2 fun _ _ ⟨a0, b0⟩ => ⟨a0, by rw [upd_ne (nd_ne dnu.1 b0 (fun _ _ _ z => by unfold Nd.ND at z; cases z))]; exact b0⟩)
      · rintro σ' H8 ⟨x7, x8, x9, x10, xs, rfl, b8, dn8⟩
        rw [hxl, List.take_length] at dn8
        exact ⟨x7, x8, x9, x10, xs, rfl, tabs_new t4 nR4 ((b45.trans (But.of (s56.trans s7))).trans b8), b8 _ _ (nd_ne dn7.1 e47 (fun _ _ _ z => by unfold Nd.ND at z; cases z)) e47, dn8⟩
    rintro σ' H6 ⟨x7, x8, x9, x10, xs, rfl, t6, e6, dn6⟩
    have hkb1 : ∀ z ∈ ks, -1000000000 ≤ z ∧ z ≤ 1000000000 := fun z hz => hkb9 z (List.mem_append_left _ hz)
    refine ⟨fun σ' H' => ∃ x12 x13 x14 x15 x16 : Option V, σ' = [some (.ref a), some (.ref d), some (.int w1), some (.int n), some (.ref q4), some (.int least), some (.ref R), x7, x8, x9, x10, some (.int ((((allH ks w1).map fun h => (behL w1 h).length).sum : Nat) : Int)), x12, x13, x14, x15, x16, none] ∧ LamX.ExtN H6 H' ∧ Tabs (TT A) H', ?_, ?_⟩
    · refine ⟨_, rfl, _, rfl, q4, w1, ks, rfl, hw, e6, by omega, hkb1, fun H7 q11 xs11 s7 n7 e7 r7 => ?_⟩
      have dn7 := dn6.same s7
      have t7 := t6.ext s7
      have hxl : xs11.length = (allH ks w1).length := Paired.length r7
      refine ⟨q11, rfl, ⟨_, SqL.of e7⟩, ?_⟩
      refine for_it (walk_list (xs := xs11)) (fun i σ' H' => ∃ x12 x13 x14 x15 x16 : Option V, σ' = [some (.ref a), some (.ref d), some (.int w1), some (.int n), some (.ref q4), some (.int least), some (.ref R), x7, x8, x9, x10, some (.int (((((allH ks w1).take i).map fun h => (behL w1 h).length).sum : Nat) : Int)), x12, x13, x14, x15, x16, none] ∧ LamX.ExtN H7 H' ∧ Tabs (TT A) H')
        ⟨none, none, none, none, none, rfl, LamX.ExtN.refl _, t7⟩ (fun i σ' H' _ ⟨_, _, _, _, _, _, x, _⟩ => SqL.of (x _ _ e7 (fun _ z => nomatch z))) ?_ ?_
      · rintro i y σ' Ho H8 hi ⟨x12, x13, x14, x15, x16, rfl, ex8, t8⟩ ⟨rfl, hy⟩
        obtain ⟨hi2, t, rfl, et⟩ := (r7.ext ex8).get hy
        have dn8 := dn7.ext ex8
        have hhm : (allH ks w1)[i] ∈ allH ks w1 := List.getElem_mem hi2
        obtain ⟨hpm, hhf⟩ := allH_mem hhm
        have hhl : (allH ks w1)[i].length = n := hpm.length_eq.trans hkl
        have hhd : (allH ks w1)[i].Nodup := hpm.nodup_iff.mpr hkd
        have hhb : ∀ z ∈ (allH ks w1)[i], -1000000000 ≤ z ∧ z ≤ 1000000000 := fun z hz => hkb1 z (hpm.mem_iff.mp hz)
        have hhlt : ∀ z ∈ (allH ks w1)[i], least < z := fun z hz => hlt z (hpm.mem_iff.mp hz)
        rw [List.take_succ_eq_append_getElem hi2, List.map_append, List.sum_append]
        generalize hci : (((allH ks w1).take i).map fun h => (behL w1 h).length).sum = ci at *
        generalize (allH ks w1)[i] = h at *
        have h00 : least < h.getD 0 0 := hhlt _ (keyAt_mem (ks := h) (p := 0) (by omega))
        have tk : ∀ (G : Hp) (r : Addr) (p : Nat), p < n → (G r = some (.lst (h.map V.int)) ∨ G r = some (.tup (h.map V.int))) → TkOk G r w1 h least p := fun G r p hp hr => ⟨hw, ⟨hr, by omega, hhb⟩, hhf, hhd, by omega, ⟨by omega, by omega⟩, h00, by omega⟩
        refine ⟨fun σ' H' => ∃ q13 : Addr, σ' = [some (.ref a), some (.ref d), some (.int w1), some (.int n), some (.ref q4), some (.int least), some (.ref R), x7, x8, x9, x10, some (.int ((ci : Nat) : Int)), some (.ref t), some (.ref q13), x14, x15, x16, none] ∧ Same H8 H' ∧ H' q13 = some (.lst []), ?_, ?_⟩
        · exact ⟨by show 0 ≤ sizeLine; decide, fun q13 n13 => ⟨q13, rfl, Same.up n13, upd_same⟩⟩
        rintro σ' H9 ⟨q13, rfl, s9, e13⟩
        refine ⟨fun σ' H' => ∃ (q13 : Addr) (x14 x15 x16 : Option V), σ' = [some (.ref a), some (.ref d), some (.int w1), some (.int n), some (.ref q4), some (.int least), some (.ref R), x7, x8, x9, x10, some (.int ((ci : Nat) : Int)), some (.ref t), some (.ref q13), x14, x15, x16, none] ∧ LamX.ExtN H9 H' ∧ Tabs (TT A) H' ∧ H' q13 = some (.lst (vi (behL w1 h))), ?_, ?_⟩
        · refine ⟨_, rfl, _, rfl, by omega, by omega, ?_⟩
          rw [Int.toNat_natCast]
          refine for_it (walk_range (lo := 0) (n := n)) (fun j σ' H' => ∃ (q13 : Addr) (x14 x15 x16 : Option V), σ' = [some (.ref a), some (.ref d), some (.int w1), some (.int n), some (.ref q4), some (.int least), some (.ref R), x7, x8, x9, x10, some (.int ((ci : Nat) : Int)), some (.ref t), some (.ref q13), x14, x15, x16, none] ∧ LamX.ExtN H9 H' ∧ Tabs (TT A) H' ∧ H' q13 = some (.lst (vi ((List.range j).filter (behB w1 h)))))
            ⟨q13, x14, x15, x16, rfl, LamX.ExtN.refl _, t8.ext s9, e13⟩ (fun _ _ _ _ _ => trivial) ?_ (fun σ' H' ⟨q13, x14, x15, x16, e, x, tt, e13⟩ => ⟨q13, x14, x15, x16, e, x, tt, by unfold behL; rw [hhl]; exact e13⟩)
          rintro p y σ' Ho H10 hp ⟨q13, x14, x15, x16, rfl, ex10, t10, e13⟩ ⟨rfl, ey⟩
          obtain rfl : y = V.int (p : Nat) := by
            rw [ey]
            show V.int (0 + (p : Int)) = _
            rw [Int.zero_add]
          have et10 := ex10 _ _ (s9 _ _ et) (fun _ z => nomatch z)
          have dn10 := (dn8.same s9).ext ex10
          -- found
          refine ⟨fun σ' H' => ∃ q15 : Addr, σ' = [some (.ref a), some (.ref d), some (.int w1), some (.int n), some (.ref q4), some (.int least), some (.ref R), x7, x8, x9, x10, some (.int ((ci : Nat) : Int)), some (.ref t), some (.ref q13), some (.int (p : Nat)), some (.ref q15), x16, none] ∧ Same H10 H' ∧ ((keyAt h (overP h.length w1) > keyAt h p ∧ AtV A.CV H' q15 (overP h.length w1 : Nat) (keyAt h (overP h.length w1))) ∨ (¬ keyAt h (overP h.length w1) > keyAt h p ∧ AtQ A.CQ H' q15 (ahdL w1 h least p))), ?_, ?_⟩
          · exact ⟨_, rfl, _, rfl, _, rfl, _, rfl, rfl, rfl, t, w1, p, least, h, rfl, tk _ _ p hp (.inr et10), fun H11 q15 s11 hc => ⟨q15, rfl, s11, hc⟩⟩
          rintro σ' H11 ⟨q15, rfl, s11, hc⟩
          have dn11 := dn10.same s11
          have et11 := s11 _ _ et10
          -- due
          refine ⟨fun σ' H' => ∃ x16 : V, σ' = [some (.ref a), some (.ref d), some (.int w1), some (.int n), some (.ref q4), some (.int least), some (.ref R), x7, x8, x9, x10, some (.int ((ci : Nat) : Int)), some (.ref t), some (.ref q13), some (.int (p : Nat)), some (.ref q15), some x16, none] ∧ Same H11 H' ∧ FD A w1 h least p q15 x16 H', ?_, ?_⟩
          · refine ⟨_, rfl, R, xs, rfl, dn11.1, _, rfl, _, rfl, by show 2 ≤ sizeLine; decide, fun u nu => ?_⟩
            have su := Same.up (o := .tup [V.ref t, V.int (p : Nat)]) nu
            have dnu := dn11.same su
            refine ⟨u, t, xs, (h, ((p : Nat) : Int)), rfl, dnu.1, dnu.2.1, upd_same, su _ _ et11, ?_⟩
            rcases hc with ⟨hg, h1⟩ | ⟨hg, h1⟩
            · have hv : Nd.valN xs (h, ((p : Nat) : Int)) = none := (dn_none dnu.2.2).mpr fun bs hb z => by
                have := (key_one hw (show n ≤ 11 by omega) hkl hn.1 hkd hlt hhm hb z).2.2
                rw [hhl] at hg
                exact this hg
              rw [hv]
              exact ⟨.non, rfl, su, .inl ⟨hg, h1.same su, rfl⟩⟩
            · obtain ⟨a1, a2, a3⟩ := ahd_all hw (show n ≤ 11 by omega) hkl hkd hlt hhm hp (by rw [hhl] at hg; exact hg)
              cases hv : Nd.valN xs (h, ((p : Nat) : Int)) with
              | none => exact absurd a2 ((dn_none dnu.2.2).mp hv _ a1)
              | some c =>
                obtain ⟨bs, b1, b2, b3⟩ := dn_some dnu.2.2 hv
                have b4 := (key_one hw (show n ≤ 11 by omega) hkl hn.1 hkd hlt hhm b1 b2).2.1
                rw [b4] at b3
                exact ⟨.ref c, rfl, su, .inr ⟨hg, h1.same su, c, rfl, b3⟩⟩
          rintro σ' H12 ⟨x16, rfl, s12, fd12⟩
          have et12 := s12 _ _ et11
          have t12 := t10.ext (s11.trans s12)
          have ex12 := ex10.trans (extN_of (s11.trans s12))
          have e13' := (s11.trans s12) _ _ e13
          have ql : h.length = n := hhl
          -- of which kind
          refine ⟨fun σ' H' => σ' = [some (.ref a), some (.ref d), some (.int w1), some (.int n), some (.ref q4), some (.int least), some (.ref R), x7, x8, x9, x10, some (.int ((ci : Nat) : Int)), some (.ref t), some (.ref q13), some (.int (p : Nat)), some (.ref q15), some x16, none] ∧ LamX.ExtN H12 H' ∧ Tabs (TT A) H', ?_, ?_⟩
          · rcases fd12 with ⟨hg, ⟨dx, g1⟩, rfl⟩ | ⟨hg, ⟨dx, t0, g1, g2⟩, c, rfl, ec⟩
            · refine ⟨_, rfl, _, _, .ref A.CV, .ref A.CQ, false, rfl, .own A.CQ, .base (.ins g1 T.cTV T.kaV T.knV T.ktkV T.kmV), T.kiQ_CV, ?_⟩
              exact ⟨_, rfl, rfl, rfl, _, rfl, ite_b (c := false) (by simp) (iteF ⟨rfl, LamX.ExtN.refl _, t12⟩)⟩
            · refine ⟨_, rfl, _, _, .ref A.CQ, .ref A.CQ, true, rfl, .own A.CQ, .base (.ins g1 T.cTQ T.kaQ T.knQ T.ktkQ T.kmQ), (by unfold PySem.W.kitOne; rw [if_pos (by simp)]), ?_⟩
              exact ⟨_, rfl, rfl, rfl, _, rfl, ite_b (c := false) (by simp) (iteF ⟨rfl, LamX.ExtN.refl _, t12⟩)⟩
          rintro σ' H13 ⟨rfl, ex13, t13⟩
          have fd13 := fd12.ext ex13
          have et13 := ex13 _ _ et12 (fun _ z => nomatch z)
          -- it shows
          refine ⟨fun σ' H' => σ' = [some (.ref a), some (.ref d), some (.int w1), some (.int n), some (.ref q4), some (.int least), some (.ref R), x7, x8, x9, x10, some (.int ((ci : Nat) : Int)), some (.ref t), some (.ref q13), some (.int (p : Nat)), some (.ref q15), some x16, none] ∧ LamX.ExtN H12 H' ∧ Tabs (TT A) H', ?_, ?_⟩
          · rcases fd13 with ⟨hg, ⟨dx, g1⟩, rfl⟩ | ⟨hg, ⟨dx, t0, g1, g2⟩, c, rfl, ec⟩
            · refine .inr ⟨_, rfl, q15, dx, _, rfl, g1, fdV_shows _ _, _, rfl, t, _, rfl, .inr (SqT.of et13), fun l nl => ?_⟩
              have s6 := Same.up (o := .lst (h.map V.int)) nl
              refine ⟨_, rfl, _, rfl, _, rfl, rfl, rfl, q15, l, w1, p, least, _, _, h, rfl, ⟨dx, s6 _ _ g1⟩, tk _ _ p hp (.inl upd_same), fun H14 s14 => ?_⟩
              refine ⟨_, _, rfl, rfl, _, rfl, ?_⟩
              rw [decide_eq_true (show ovP w1 h p _ _ from ⟨rfl, rfl, hg⟩), decide_eq_true rfl]
              exact iteF ⟨rfl, ex13.trans (extN_of (s6.trans s14)), t13.ext (s6.trans s14)⟩
            · refine .inl ⟨_, rfl, q15, dx, _, rfl, g1, fdQ_shows _, _, rfl, t, _, rfl, .inr (SqT.of et13), fun l nl => ?_⟩
              have s6 := Same.up (o := .lst (h.map V.int)) nl
              obtain ⟨a1, a2, a3⟩ := ahd_all hw (show n ≤ 11 by omega) hkl hkd hlt hhm hp (by rw [ql] at hg; exact hg)
              have pb := (allH_mem a1).1
              have hal : (ahdL w1 h least p).length ≤ 12 := by rw [pb.length_eq, hdl]; omega
              refine ⟨_, rfl, _, rfl, _, rfl, rfl, rfl, q15, l, w1, p, least, h, ahdL w1 h least p, rfl, ⟨dx, t0, s6 _ _ g1, s6 _ _ g2⟩, hal, fun z hz => hkb9 z (pb.mem_iff.mp hz), tk _ _ p hp (.inl upd_same), t13.ext s6, fun H14 e14 t14 => ?_⟩
              refine ⟨_, _, rfl, rfl, _, rfl, ?_⟩
              rw [decide_eq_true a3, decide_eq_true rfl]
              exact iteF ⟨rfl, (ex13.trans (extN_of s6)).trans e14, t14⟩
          clear fd13 et13
          rintro σ' H14 ⟨rfl, ex14, t14⟩
          have fd14 := fd12.ext ex14
          have et14 := ex14 _ _ et12 (fun _ z => nomatch z)
          -- its row is due
          refine ⟨fun σ' H' => σ' = [some (.ref a), some (.ref d), some (.int w1), some (.int n), some (.ref q4), some (.int least), some (.ref R), x7, x8, x9, x10, some (.int ((ci : Nat) : Int)), some (.ref t), some (.ref q13), some (.int (p : Nat)), some (.ref q15), some x16, none] ∧ LamX.ExtN H12 H' ∧ Tabs (TT A) H', ?_, ?_⟩
          · rcases fd14 with ⟨hg, ⟨dx, g1⟩, rfl⟩ | ⟨hg, ⟨dx, t0, g1, g2⟩, c, rfl, ec⟩
            · exact ⟨_, rfl, rfl, _, rfl, ite_b (c := false) (by simp) (iteF (iteF ⟨rfl, ex14, t14⟩))⟩
            · refine ⟨_, rfl, rfl, _, rfl, ite_b (c := true) (by simp) (iteT ?_)⟩
              refine ⟨_, rfl, q15, A.CQ, dx, _, _, rfl, g1, T.cTQ, T.qRow, fdQ_row _, _, rfl, _, _, .tup (SqT.of g2) (ints_dp _ _ _), .tup (SqT.of ec) (ints_dp _ _ _), ints_shT _, ints_shT _, _, rfl, ?_⟩
              rw [refl_of (ints_shT _)]
              exact iteF ⟨rfl, ex14, t14⟩
          clear fd14 et14
          rintro σ' H15 ⟨rfl, ex15, t15⟩
          have fd15 := fd12.ext ex15
          -- the other kind
          refine ⟨fun σ' H' => σ' = [some (.ref a), some (.ref d), some (.int w1), some (.int n), some (.ref q4), some (.int least), some (.ref R), x7, x8, x9, x10, some (.int ((ci : Nat) : Int)), some (.ref t), some (.ref q13), some (.int (p : Nat)), some (.ref q15), some x16, none] ∧ LamX.ExtN H12 H' ∧ Tabs (TT A) H', ?_, ?_⟩
          · rcases fd15 with ⟨hg, ⟨dx, g1⟩, rfl⟩ | ⟨hg, ⟨dx, t0, g1, g2⟩, c, rfl, ec⟩
            · refine ⟨_, rfl, rfl, _, rfl, ite_b (c := true) (by simp) (iteT ?_)⟩
              refine ⟨_, rfl, _, _, .ref A.CV, .ref A.CV, true, rfl, .own A.CV, .base (.ins g1 T.cTV T.kaV T.knV T.ktkV T.kmV), (by unfold PySem.W.kitOne; rw [if_pos (by simp)]), ?_⟩
              exact ⟨_, rfl, iteF ⟨rfl, ex15, t15⟩⟩
            · exact ⟨_, rfl, rfl, _, rfl, ite_b (c := false) (by simp) (iteF (iteF ⟨rfl, ex15, t15⟩))⟩
          clear fd15
          rintro σ' H16 ⟨rfl, ex16, t16⟩
          have fd16 := fd12.ext ex16
          have et16 := ex16 _ _ et12 (fun _ z => nomatch z)
          have hov : overP h.length w1 < h.length := by
            show (h.length - 1) / w1 < h.length
            have := Nat.div_le_self (h.length - 1) w1
            omega
          -- its place and key
          refine ⟨fun σ' H' => σ' = [some (.ref a), some (.ref d), some (.int w1), some (.int n), some (.ref q4), some (.int least), some (.ref R), x7, x8, x9, x10, some (.int ((ci : Nat) : Int)), some (.ref t), some (.ref q13), some (.int (p : Nat)), some (.ref q15), some x16, none] ∧ LamX.ExtN H12 H' ∧ Tabs (TT A) H', ?_, ?_⟩
          · rcases fd16 with ⟨hg, ⟨dx, g1⟩, rfl⟩ | ⟨hg, ⟨dx, t0, g1, g2⟩, c, rfl, ec⟩
            · refine ⟨_, rfl, rfl, _, rfl, ite_b (c := true) (by simp) (iteT ?_)⟩
              refine ⟨_, rfl, _, rfl, q15, A.CV, dx, _, _, rfl, g1, T.cTV, T.vPlace, fdV_place _ _, t, _, _, _, rfl, rfl, SqT.of et16, key_at hov, _, rfl, q15, A.CV, dx, _, _, rfl, g1, T.cTV, T.vKey, fdV_key _ _, rfl, _, rfl, ite_b (c := false) (by rw [decide_eq_true rfl]; rfl) (iteF ?_)⟩
              refine ⟨_, rfl, q15, A.CV, dx, _, _, rfl, g1, T.cTV, T.vKey, fdV_key _ _, _, rfl, _, rfl, t, _, _, _, rfl, rfl, SqT.of et16, key_at (show p < h.length by omega), _, _, rfl, rfl, _, rfl, ite_b (c := false) (decide_eq_false (by omega)) (iteF ⟨rfl, ex16, t16⟩)⟩
            · exact ⟨_, rfl, rfl, _, rfl, ite_b (c := false) (by simp) (iteF (iteF ⟨rfl, ex16, t16⟩))⟩
          clear fd16 et16
          rintro σ' H17 ⟨rfl, ex17, t17⟩
          have fd17 := fd12.ext ex17
          -- able
          have e17 := ex17 _ _ e13' (fun _ z => nomatch z)
          refine ⟨_, rfl, _, rfl, by show 1 ≤ sizeLine; decide, fun u nu => ⟨u, rfl, ⟨_, SqL.of upd_same⟩, fun D nD => ?_⟩⟩
          have su := Same.up (o := .lst [x16]) nu
          have eu : upd H17 u (.lst [x16]) u = some (.lst [x16]) := upd_same
          have eu13 := su _ _ e17
          have tu := t17.ext su
          have exu := ex12.trans (ex17.trans (extN_of su))
          generalize upd H17 u (.lst [x16]) = H18 at *
          refine lc_it (walk_list (xs := [x16])) (fun m H' => Acc H18 D (vi ((List.replicate m p).filter (behB w1 h))) H') (Acc.start nD) (fun m H' _ ac => SqL.of (ac.s _ _ eu)) ?_ ?_
          · rintro m y Ho H19 hm ac ⟨rfl, hy⟩
            have hm0 : m = 0 := by
              have : m < 1 := hm
              omega
            subst hm0
            have hy : y = x16 := by
              have hy : some x16 = some y := hy
              injection hy with hy
              exact hy.symm
            subst hy
            refine ⟨rfl, _, rfl, rfl, _, rfl, ?_⟩
            rcases fd17 with ⟨hg, _, rfl⟩ | ⟨hg, _, c, rfl, _⟩
            · refine ite_b (c := false) (by simp) (iteF ?_)
              rw [show ((List.replicate (0 + 1) p).filter (behB w1 h)) = [] from List.filter_cons_of_neg (by rw [show behB w1 h p = false from decide_eq_false (by omega)]; exact Bool.false_ne_true)]
              exact ac
            · refine ite_b (c := true) (by simp) (iteT ⟨_, rfl, _, ac.a, by show 0 < sizeLine; decide, ?_⟩)
              rw [show ((List.replicate (0 + 1) p).filter (behB w1 h)) = [p] from List.filter_cons_of_pos (show behB w1 h p = true from decide_eq_true (by omega))]
              exact ac.push
          · intro H19 ac
            have hl1 := List.length_filter_le (behB w1 h) (List.range p)
            have hl2 := List.length_filter_le (behB w1 h) (List.replicate 1 p)
            rw [List.length_range] at hl1
            rw [List.length_replicate] at hl2
            have ac : Acc H18 D (vi ((List.replicate 1 p).filter (behB w1 h))) H19 := ac
            refine ⟨q13, D, _, _, rfl, rfl, ac.s _ _ eu13, ac.a, by rw [vi_len, vi_len, sizeLine_eq]; omega, fun r nr => ?_⟩
            refine ⟨r, _, _, _, rfl, exu.trans (extN_of (ac.s.trans (Same.up nr))), tu.ext (ac.s.trans (Same.up nr)), ?_⟩
            rw [upd_same, List.range_succ, List.filter_append]
            have e : vi ((List.range p).filter (behB w1 h) ++ [p].filter (behB w1 h)) = vi ((List.range p).filter (behB w1 h)) ++ vi ([p].filter (behB w1 h)) := by
              unfold vi
              rw [List.map_append]
            rw [e]
            rfl
        rintro σ' H10 ⟨q13, x14, x15, x16, rfl, ex10, t10, e13⟩
        have exA := (extN_of s9).trans ex10
        have et10 := exA _ _ et (fun _ z => nomatch z)
        have hpd : ∀ (G : Hp) (r : Addr), (G r = some (.lst (h.map V.int)) ∨ G r = some (.tup (h.map V.int))) → HpD G r w1 h := fun G r hr => ⟨hw, ⟨hr, by omega, hhb⟩, hhf, hhd, by omega⟩
        refine ⟨fun σ' H' => σ' = [some (.ref a), some (.ref d), some (.int w1), some (.int n), some (.ref q4), some (.int least), some (.ref R), x7, x8, x9, x10, some (.int ((ci : Nat) : Int)), some (.ref t), some (.ref q13), x14, x15, x16, none] ∧ Same H10 H', ?_, ?_⟩
        · refine ⟨_, rfl, _, rfl, rfl, rfl, t, w1, h, rfl, .inl ⟨hpd _ _ (.inr et10), by omega⟩, fun H11 q s11 e11 => ?_⟩
          refine ⟨_, rfl, _, _, dp_lst _ e11, dp_lst _ (s11 _ _ e13), dl_shapedL _, dl_shapedL _, _, rfl, ?_⟩
          rw [refl_of (dl_shapedL _)]
          exact iteF ⟨rfl, s11⟩
        rintro σ' H11 ⟨rfl, s11⟩
        refine ⟨fun σ' H' => σ' = [some (.ref a), some (.ref d), some (.int w1), some (.int n), some (.ref q4), some (.int least), some (.ref R), x7, x8, x9, x10, some (.int ((ci : Nat) : Int)), some (.ref t), some (.ref q13), x14, x15, x16, none] ∧ Same H10 H', ?_, ?_⟩
        · by_cases h2 : w1 = 2
          · refine ⟨_, rfl, rfl, _, rfl, ite_b (c := true) (decide_eq_true (by rw [h2]; rfl)) (iteT ?_)⟩
            refine ⟨_, rfl, t, _, rfl, .inr (SqT.of (s11 _ _ et10)), fun l nl => ?_⟩
            have hp2 := hpd (upd H11 l (.lst (h.map V.int))) l (.inl upd_same)
            rw [h2] at hp2
            refine ⟨l, 2, h, rfl, .inl ⟨hp2, by omega⟩, fun H12 q s12 e12 => ?_⟩
            rw [← h2] at e12
            have s112 := s11.trans ((Same.up (o := .lst (h.map V.int)) nl).trans s12)
            refine ⟨_, rfl, _, _, dp_lst _ e12, dp_lst _ (s112 _ _ e13), dl_shapedL _, dl_shapedL _, _, rfl, ?_⟩
            rw [refl_of (dl_shapedL _)]
            exact iteF ⟨rfl, s112⟩
          · refine ⟨_, rfl, rfl, _, rfl, ite_b (c := false) (decide_eq_false fun z => h2 (by injection z with z; omega)) (iteF ?_)⟩
            exact iteF ⟨rfl, s11⟩
        rintro σ' H12 ⟨rfl, s12⟩
        refine ⟨_, rfl, _, rfl, q13, _, rfl, .inl (SqL.of (s12 _ _ e13)), _, _, rfl, rfl, some (V.ref t), some (V.ref q13), x14, x15, x16, ?_, ex8.trans (exA.trans (extN_of s12)), t10.ext s12⟩
        show [some (V.ref a), some (V.ref d), some (V.int w1), some (V.int n), some (V.ref q4), some (V.int least), some (V.ref R), x7, x8, x9, x10, some (V.int (((ci : Nat) : Int) + ((vi (behL w1 h)).length : Nat))), some (V.ref t), some (V.ref q13), x14, x15, x16, none] = _
        have e : ((ci : Nat) : Int) + ((vi (behL w1 h)).length : Nat) = ((ci + (List.map (fun h => (behL w1 h).length) [h]).sum : Nat) : Int) := by
          rw [vi_len, Int.natCast_add, List.map_cons, List.map_nil, List.sum_cons, List.sum_nil, Nat.add_zero]
        rw [e]
      · rintro σ' H8 ⟨x12, x13, x14, x15, x16, rfl, ex8, t8⟩
        rw [hxl, List.take_length]
        exact ⟨x12, x13, x14, x15, x16, rfl, (extN_of s7).trans ex8, t8⟩
    rintro σ' H7 ⟨x12, x13, x14, x15, x16, rfl, ex7, t7⟩
    have dn7 := dn6.ext ex7
    have hsum := beh_sum hw (show n ≤ 11 by omega) hkl hn.1 hkd hlt
    have hlen : xs.length = howN (n + 1) w1 := by rw [Paired.length dn7.2.2, heaps_len hw (show n + 1 ≤ 12 by omega) hdl hdN]
    refine ⟨fun σ' _ => σ' = [some (.ref a), some (.ref d), some (.int w1), some (.int n), some (.ref q4), some (.int least), some (.ref R), x7, x8, x9, x10, some (.int ((((allH ks w1).map fun h => (behL w1 h).length).sum : Nat) : Int)), x12, x13, x14, x15, x16, none], ?_, ?_⟩
    · refine ⟨_, rfl, _, rfl, _, _, rfl, rfl, _, rfl, rfl, rfl, n + 1, w1, by rw [Int.natCast_add]; rfl, by omega, hw, fun H8 s8 => ?_⟩
      refine ⟨rfl, _, rfl, ite_b (c := false) (by rw [hsum, decide_eq_true rfl]; rfl) (iteF ?_)⟩
      have dn8 := dn7.same s8
      refine ⟨_, rfl, _, rfl, R, xs, rfl, dn8.1, dn8.2.1, rfl, _, rfl, ite_b (c := false) (by rw [hsum, hlen, decide_eq_true rfl]; rfl) (iteF ?_)⟩
      rfl
    rintro σ' H8 rfl
    refine ⟨by show 0 ≤ sizeLine; decide, fun l nl => ⟨_, rfl, rfl, rfl, l, w1, [], rfl, .inr ⟨rfl, hw, .inl upd_same⟩, fun H9 q9 s9 e9 => ⟨by show 0 ≤ sizeLine; decide, fun l2 nl2 => ?_⟩⟩⟩
    have e92 := (Same.up (o := .lst []) nl2) _ _ e9
    have el2 : upd H9 l2 (.lst []) l2 = some (.lst (vi [])) := upd_same
    refine ⟨_, _, dp_lst _ e92, dp_lst _ el2, dl_shapedL _, dl_shapedL _, ?_⟩
    rw [show behL w1 [] = [] from rfl, refl_of (dl_shapedL _)]
    exact q _
theorem b_law (T : Tx K mg A) : L2.Binds K A.d_law ["script"] [] := T.F_law.binds fun _ _ _ _ _ _ us hl => match us, hl with | [_], _ => rfl

end
end Tw

set_option Elab.async false
set_option linter.all false
set_option maxRecDepth 100000
set_option maxHeartbeats 2000000
namespace Tw
open PySem PySem.Spec PyProof.Rows L2
theorem kit_no {K : PySem.W.Frag} {C : Addr} {t : String} (hc : PySem.W.isClsIn K C = true) (ht : PySem.W.typeIn K (.ref C) = some (.type "type")) (hs : PySem.W.subIn K (.type t) (.ref C) = some false) : PySem.W.kitOne K (.type t) (.ref C) = some false := by
  unfold PySem.W.kitOne PySem.W.kitCls
  have h1 : (PySem.W.clsIn K C).isSome = true := hc
  simp only [h1, ht, hs, beq_self_eq_true, Bool.and_self, if_true]
  rfl
theorem kit_no2 {K : PySem.W.Frag} {C D : Addr} (hc : PySem.W.isClsIn K C = true) (ht : PySem.W.typeIn K (.ref C) = some (.type "type")) (hs : PySem.W.subIn K (.ref D) (.ref C) = some false) (hn : (D == C) = false) : PySem.W.kitOne K (.ref D) (.ref C) = some false := by
  unfold PySem.W.kitOne PySem.W.kitCls
  have h1 : (PySem.W.clsIn K C).isSome = true := hc
  have h2 : (Value.ref D == Value.ref C) = false := beq_eq_false_iff_ne.mpr fun z => by
    injection z with z
    exact (beq_eq_false_iff_ne.mp hn) z
  rw [h2, if_neg Bool.false_ne_true]
  simp only [h1, ht, hs, beq_self_eq_true, Bool.and_self, if_true]
theorem all_mk {l : PySem.W.OpenLaw} {w : World} {K : PySem.W.Frag} {h : Heap} {mg : Str → Option Value} (X : K.In h) (G : h.Ns mainGlobals mg) {fa C CS CQ CV po D_t___init__ D_t_of D_is_heap D_faults D_how_many D_sift_down D_take D_q_shows D_v_shows D_undo_take D_places_behind f_is_integer f_is_integer_from f_is_key f_check_arms f_check_many f_check_place f_check_key f_row_of f_check_different f_t___init__ f_t_of f_t___len__ f_t___iter__ f_t___getitem__ f_t_parent f_t_way_to f_t_depth f_t_size f_t_subtree f_is_heap f_faults f_heap_of f_different_heap_of f_how_many f_z___init__ f_sift_down f_least_child f_row_before f_take f_filled_heap_of f_check_filled f_q___init__ f_q_shows f_v___init__ f_v_shows f_undo_take f_places_behind f_heap_with_room f_heap_after f_place_over_next f__law_number f__law_take f__law_pick f__law_parent f__law_children f__law_way f__law_arms f__law_order f__law_is_heap f__law_lists f__law_heaps f__law_down f__law_out f__law_unlike f_law : Addr} {cc_least_child PP_least_child : Addr} {od_is_integer an_is_integer : Option Addr} {sl_is_integer : Array (Option Value)} {oc_is_integer kV_is_integer dc_is_integer pm_is_integer cd_is_integer ct_is_integer : Value} {od_is_integer_from an_is_integer_from : Option Addr} {sl_is_integer_from : Array (Option Value)} {oc_is_integer_from kV_is_integer_from dc_is_integer_from pm_is_integer_from cd_is_integer_from ct_is_integer_from : Value} {od_is_key an_is_key : Option Addr} {sl_is_key : Array (Option Value)} {oc_is_key kV_is_key dc_is_key pm_is_key cd_is_key ct_is_key : Value} {od_check_arms an_check_arms : Option Addr} {sl_check_arms : Array (Option Value)} {oc_check_arms kV_check_arms dc_check_arms pm_check_arms cd_check_arms ct_check_arms : Value} {od_check_many an_check_many : Option Addr} {sl_check_many : Array (Option Value)} {oc_check_many kV_check_many dc_check_many pm_check_many cd_check_many ct_check_many : Value} {od_check_place an_check_place : Option Addr} {sl_check_place : Array (Option Value)} {oc_check_place kV_check_place dc_check_place pm_check_place cd_check_place ct_check_place : Value} {od_check_key an_check_key : Option Addr} {sl_check_key : Array (Option Value)} {oc_check_key kV_check_key dc_check_key pm_check_key cd_check_key ct_check_key : Value} {od_row_of an_row_of : Option Addr} {sl_row_of : Array (Option Value)} {oc_row_of kV_row_of dc_row_of pm_row_of cd_row_of ct_row_of : Value} {od_check_different an_check_different : Option Addr} {sl_check_different : Array (Option Value)} {oc_check_different kV_check_different dc_check_different pm_check_different cd_check_different ct_check_different : Value} {od_t___init__ an_t___init__ : Option Addr} {sl_t___init__ : Array (Option Value)} {oc_t___init__  dc_t___init__ pm_t___init__ cd_t___init__ ct_t___init__ : Value} {od_t_of an_t_of : Option Addr} {sl_t_of : Array (Option Value)} {oc_t_of  dc_t_of pm_t_of cd_t_of ct_t_of : Value} {od_t___len__ an_t___len__ : Option Addr} {sl_t___len__ : Array (Option Value)} {oc_t___len__ kV_t___len__ dc_t___len__ pm_t___len__ cd_t___len__ ct_t___len__ : Value} {od_t___iter__ an_t___iter__ : Option Addr} {sl_t___iter__ : Array (Option Value)} {oc_t___iter__ kV_t___iter__ dc_t___iter__ pm_t___iter__ cd_t___iter__ ct_t___iter__ : Value} {od_t___getitem__ an_t___getitem__ : Option Addr} {sl_t___getitem__ : Array (Option Value)} {oc_t___getitem__ kV_t___getitem__ dc_t___getitem__ pm_t___getitem__ cd_t___getitem__ ct_t___getitem__ : Value} {od_t_parent an_t_parent : Option Addr} {sl_t_parent : Array (Option Value)} {oc_t_parent kV_t_parent dc_t_parent pm_t_parent cd_t_parent ct_t_parent : Value} {od_t_way_to an_t_way_to : Option Addr} {sl_t_way_to : Array (Option Value)} {oc_t_way_to kV_t_way_to dc_t_way_to pm_t_way_to cd_t_way_to ct_t_way_to : Value} {od_t_depth an_t_depth : Option Addr} {sl_t_depth : Array (Option Value)} {oc_t_depth kV_t_depth dc_t_depth pm_t_depth cd_t_depth ct_t_depth : Value} {od_t_size an_t_size : Option Addr} {sl_t_size : Array (Option Value)} {oc_t_size kV_t_size dc_t_size pm_t_size cd_t_size ct_t_size : Value} {od_t_subtree an_t_subtree : Option Addr} {sl_t_subtree : Array (Option Value)} {oc_t_subtree kV_t_subtree dc_t_subtree pm_t_subtree cd_t_subtree ct_t_subtree : Value} {od_is_heap an_is_heap : Option Addr} {sl_is_heap : Array (Option Value)} {oc_is_heap  dc_is_heap pm_is_heap cd_is_heap ct_is_heap : Value} {od_faults an_faults : Option Addr} {sl_faults : Array (Option Value)} {oc_faults  dc_faults pm_faults cd_faults ct_faults : Value} {od_heap_of an_heap_of : Option Addr} {sl_heap_of : Array (Option Value)} {oc_heap_of kV_heap_of dc_heap_of pm_heap_of cd_heap_of ct_heap_of : Value} {od_different_heap_of an_different_heap_of : Option Addr} {sl_different_heap_of : Array (Option Value)} {oc_different_heap_of kV_different_heap_of dc_different_heap_of pm_different_heap_of cd_different_heap_of ct_different_heap_of : Value} {od_how_many an_how_many : Option Addr} {sl_how_many : Array (Option Value)} {oc_how_many  dc_how_many pm_how_many cd_how_many ct_how_many : Value} {od_z___init__ an_z___init__ : Option Addr} {sl_z___init__ : Array (Option Value)} {oc_z___init__ kV_z___init__ dc_z___init__ pm_z___init__ cd_z___init__ ct_z___init__ : Value} {od_sift_down an_sift_down : Option Addr} {sl_sift_down : Array (Option Value)} {oc_sift_down  dc_sift_down pm_sift_down cd_sift_down ct_sift_down : Value} {od_least_child an_least_child : Option Addr} {sl_least_child : Array (Option Value)} {oc_least_child kV_least_child dc_least_child pm_least_child  ct_least_child : Value} {od_row_before an_row_before : Option Addr} {sl_row_before : Array (Option Value)} {oc_row_before kV_row_before dc_row_before pm_row_before cd_row_before ct_row_before : Value} {od_take an_take : Option Addr} {sl_take : Array (Option Value)} {oc_take  dc_take pm_take cd_take ct_take : Value} {od_filled_heap_of an_filled_heap_of : Option Addr} {sl_filled_heap_of : Array (Option Value)} {oc_filled_heap_of kV_filled_heap_of dc_filled_heap_of pm_filled_heap_of cd_filled_heap_of ct_filled_heap_of : Value} {od_check_filled an_check_filled : Option Addr} {sl_check_filled : Array (Option Value)} {oc_check_filled kV_check_filled dc_check_filled pm_check_filled cd_check_filled ct_check_filled : Value} {od_q___init__ an_q___init__ : Option Addr} {sl_q___init__ : Array (Option Value)} {oc_q___init__ kV_q___init__ dc_q___init__ pm_q___init__ cd_q___init__ ct_q___init__ : Value} {od_q_shows an_q_shows : Option Addr} {sl_q_shows : Array (Option Value)} {oc_q_shows  dc_q_shows pm_q_shows cd_q_shows ct_q_shows : Value} {od_v___init__ an_v___init__ : Option Addr} {sl_v___init__ : Array (Option Value)} {oc_v___init__ kV_v___init__ dc_v___init__ pm_v___init__ cd_v___init__ ct_v___init__ : Value} {od_v_shows an_v_shows : Option Addr} {sl_v_shows : Array (Option Value)} {oc_v_shows  dc_v_shows pm_v_shows cd_v_shows ct_v_shows : Value} {od_undo_take an_undo_take : Option Addr} {sl_undo_take : Array (Option Value)} {oc_undo_take  dc_undo_take pm_undo_take cd_undo_take ct_undo_take : Value} {od_places_behind an_places_behind : Option Addr} {sl_places_behind : Array (Option Value)} {oc_places_behind  dc_places_behind pm_places_behind cd_places_behind ct_places_behind : Value} {od_heap_with_room an_heap_with_room : Option Addr} {sl_heap_with_room : Array (Option Value)} {oc_heap_with_room kV_heap_with_room dc_heap_with_room pm_heap_with_room cd_heap_with_room ct_heap_with_room : Value} {od_heap_after an_heap_after : Option Addr} {sl_heap_after : Array (Option Value)} {oc_heap_after kV_heap_after dc_heap_after pm_heap_after cd_heap_after ct_heap_after : Value} {od_place_over_next an_place_over_next : Option Addr} {sl_place_over_next : Array (Option Value)} {oc_place_over_next kV_place_over_next dc_place_over_next pm_place_over_next cd_place_over_next ct_place_over_next : Value} {od__law_number an__law_number : Option Addr} {sl__law_number : Array (Option Value)} {oc__law_number kV__law_number dc__law_number pm__law_number cd__law_number ct__law_number : Value} {od__law_take an__law_take : Option Addr} {sl__law_take : Array (Option Value)} {oc__law_take kV__law_take dc__law_take pm__law_take cd__law_take ct__law_take : Value} {od__law_pick an__law_pick : Option Addr} {sl__law_pick : Array (Option Value)} {oc__law_pick kV__law_pick dc__law_pick pm__law_pick cd__law_pick ct__law_pick : Value} {od__law_parent an__law_parent : Option Addr} {sl__law_parent : Array (Option Value)} {oc__law_parent kV__law_parent dc__law_parent pm__law_parent cd__law_parent ct__law_parent : Value} {od__law_children an__law_children : Option Addr} {sl__law_children : Array (Option Value)} {oc__law_children kV__law_children dc__law_children pm__law_children cd__law_children ct__law_children : Value} {od__law_way an__law_way : Option Addr} {sl__law_way : Array (Option Value)} {oc__law_way kV__law_way dc__law_way pm__law_way cd__law_way ct__law_way : Value} {od__law_arms an__law_arms : Option Addr} {sl__law_arms : Array (Option Value)} {oc__law_arms kV__law_arms dc__law_arms pm__law_arms cd__law_arms ct__law_arms : Value} {od__law_order an__law_order : Option Addr} {sl__law_order : Array (Option Value)} {oc__law_order kV__law_order dc__law_order pm__law_order cd__law_order ct__law_order : Value} {od__law_is_heap an__law_is_heap : Option Addr} {sl__law_is_heap : Array (Option Value)} {oc__law_is_heap kV__law_is_heap dc__law_is_heap pm__law_is_heap cd__law_is_heap ct__law_is_heap : Value} {od__law_lists an__law_lists : Option Addr} {sl__law_lists : Array (Option Value)} {oc__law_lists kV__law_lists dc__law_lists pm__law_lists cd__law_lists ct__law_lists : Value} {od__law_heaps an__law_heaps : Option Addr} {sl__law_heaps : Array (Option Value)} {oc__law_heaps kV__law_heaps dc__law_heaps pm__law_heaps cd__law_heaps ct__law_heaps : Value} {od__law_down an__law_down : Option Addr} {sl__law_down : Array (Option Value)} {oc__law_down kV__law_down dc__law_down pm__law_down cd__law_down ct__law_down : Value} {od__law_out an__law_out : Option Addr} {sl__law_out : Array (Option Value)} {oc__law_out kV__law_out dc__law_out pm__law_out cd__law_out ct__law_out : Value} {od__law_unlike an__law_unlike : Option Addr} {sl__law_unlike : Array (Option Value)} {oc__law_unlike kV__law_unlike dc__law_unlike pm__law_unlike cd__law_unlike ct__law_unlike : Value} {od_law an_law : Option Addr} {sl_law : Array (Option Value)} {oc_law kV_law dc_law pm_law cd_law ct_law : Value}
    (hfa : mg "law" = some (.ref fa))
    (aC : PySem.W.nsIn K mainGlobals "Tree" = some (some (.ref C)))
    (aCS : PySem.W.nsIn K mainGlobals "Sift" = some (some (.ref CS)))
    (aCQ : PySem.W.nsIn K mainGlobals "Before" = some (some (.ref CQ)))
    (aCV : PySem.W.nsIn K mainGlobals "Over" = some (some (.ref CV)))
    (a_is_integer : PySem.W.nsIn K mainGlobals "is_integer" = some (some (.ref f_is_integer)))
    (l_is_integer : K.lookup f_is_integer = some ⟨oc_is_integer, od_is_integer, .func (PySem.W.fnOf "is_integer" "is_integer" (defArgs s_is_integer) (defBody s_is_integer) (defScope s_is_integer) .none kV_is_integer dc_is_integer pm_is_integer an_is_integer cd_is_integer ct_is_integer), sl_is_integer⟩)
    (c_is_integer : PySem.W.codeIn K cd_is_integer "is_integer" = true)
    (k_is_integer : PySem.W.keepIn K (.ref f_is_integer) = true)
    (a_is_integer_from : PySem.W.nsIn K mainGlobals "is_integer_from" = some (some (.ref f_is_integer_from)))
    (l_is_integer_from : K.lookup f_is_integer_from = some ⟨oc_is_integer_from, od_is_integer_from, .func (PySem.W.fnOf "is_integer_from" "is_integer_from" (defArgs s_is_integer_from) (defBody s_is_integer_from) (defScope s_is_integer_from) .none kV_is_integer_from dc_is_integer_from pm_is_integer_from an_is_integer_from cd_is_integer_from ct_is_integer_from), sl_is_integer_from⟩)
    (c_is_integer_from : PySem.W.codeIn K cd_is_integer_from "is_integer_from" = true)
    (k_is_integer_from : PySem.W.keepIn K (.ref f_is_integer_from) = true)
    (a_is_key : PySem.W.nsIn K mainGlobals "is_key" = some (some (.ref f_is_key)))
    (l_is_key : K.lookup f_is_key = some ⟨oc_is_key, od_is_key, .func (PySem.W.fnOf "is_key" "is_key" (defArgs s_is_key) (defBody s_is_key) (defScope s_is_key) .none kV_is_key dc_is_key pm_is_key an_is_key cd_is_key ct_is_key), sl_is_key⟩)
    (c_is_key : PySem.W.codeIn K cd_is_key "is_key" = true)
    (k_is_key : PySem.W.keepIn K (.ref f_is_key) = true)
    (a_check_arms : PySem.W.nsIn K mainGlobals "check_arms" = some (some (.ref f_check_arms)))
    (l_check_arms : K.lookup f_check_arms = some ⟨oc_check_arms, od_check_arms, .func (PySem.W.fnOf "check_arms" "check_arms" (defArgs s_check_arms) (defBody s_check_arms) (defScope s_check_arms) .none kV_check_arms dc_check_arms pm_check_arms an_check_arms cd_check_arms ct_check_arms), sl_check_arms⟩)
    (c_check_arms : PySem.W.codeIn K cd_check_arms "check_arms" = true)
    (k_check_arms : PySem.W.keepIn K (.ref f_check_arms) = true)
    (a_check_many : PySem.W.nsIn K mainGlobals "check_many" = some (some (.ref f_check_many)))
    (l_check_many : K.lookup f_check_many = some ⟨oc_check_many, od_check_many, .func (PySem.W.fnOf "check_many" "check_many" (defArgs s_check_many) (defBody s_check_many) (defScope s_check_many) .none kV_check_many dc_check_many pm_check_many an_check_many cd_check_many ct_check_many), sl_check_many⟩)
    (c_check_many : PySem.W.codeIn K cd_check_many "check_many" = true)
    (k_check_many : PySem.W.keepIn K (.ref f_check_many) = true)
    (a_check_place : PySem.W.nsIn K mainGlobals "check_place" = some (some (.ref f_check_place)))
    (l_check_place : K.lookup f_check_place = some ⟨oc_check_place, od_check_place, .func (PySem.W.fnOf "check_place" "check_place" (defArgs s_check_place) (defBody s_check_place) (defScope s_check_place) .none kV_check_place dc_check_place pm_check_place an_check_place cd_check_place ct_check_place), sl_check_place⟩)
    (c_check_place : PySem.W.codeIn K cd_check_place "check_place" = true)
    (k_check_place : PySem.W.keepIn K (.ref f_check_place) = true)
    (a_check_key : PySem.W.nsIn K mainGlobals "check_key" = some (some (.ref f_check_key)))
    (l_check_key : K.lookup f_check_key = some ⟨oc_check_key, od_check_key, .func (PySem.W.fnOf "check_key" "check_key" (defArgs s_check_key) (defBody s_check_key) (defScope s_check_key) .none kV_check_key dc_check_key pm_check_key an_check_key cd_check_key ct_check_key), sl_check_key⟩)
    (c_check_key : PySem.W.codeIn K cd_check_key "check_key" = true)
    (k_check_key : PySem.W.keepIn K (.ref f_check_key) = true)
    (a_row_of : PySem.W.nsIn K mainGlobals "row_of" = some (some (.ref f_row_of)))
    (l_row_of : K.lookup f_row_of = some ⟨oc_row_of, od_row_of, .func (PySem.W.fnOf "row_of" "row_of" (defArgs s_row_of) (defBody s_row_of) (defScope s_row_of) .none kV_row_of dc_row_of pm_row_of an_row_of cd_row_of ct_row_of), sl_row_of⟩)
    (c_row_of : PySem.W.codeIn K cd_row_of "row_of" = true)
    (k_row_of : PySem.W.keepIn K (.ref f_row_of) = true)
    (a_check_different : PySem.W.nsIn K mainGlobals "check_different" = some (some (.ref f_check_different)))
    (l_check_different : K.lookup f_check_different = some ⟨oc_check_different, od_check_different, .func (PySem.W.fnOf "check_different" "check_different" (defArgs s_check_different) (defBody s_check_different) (defScope s_check_different) .none kV_check_different dc_check_different pm_check_different an_check_different cd_check_different ct_check_different), sl_check_different⟩)
    (c_check_different : PySem.W.codeIn K cd_check_different "check_different" = true)
    (k_check_different : PySem.W.keepIn K (.ref f_check_different) = true)
    (a_t___init__ : PySem.W.findIn K (.ref C) "__init__" = some (some (.ref f_t___init__)))
    (i_t___init__ : PySem.W.isFn K (.ref f_t___init__) = true)
    (l_t___init__ : K.lookup f_t___init__ = some ⟨oc_t___init__, od_t___init__, .func (PySem.W.fnOf "__init__" "Tree.__init__" (defArgs s_t___init__) (defBody s_t___init__) (defScope s_t___init__) .none (.ref D_t___init__) dc_t___init__ pm_t___init__ an_t___init__ cd_t___init__ ct_t___init__), sl_t___init__⟩)
    (c_t___init__ : PySem.W.codeIn K cd_t___init__ "Tree.__init__" = true)
    (k_t___init__ : PySem.W.keepIn K (.ref f_t___init__) = true)
    {tk_t___init__ : Tok}
    (w_t___init__ : PySem.W.nsIn K D_t___init__ "arms" = some (some (.int 2 tk_t___init__)))
    (a_t_of : PySem.W.findCls K (.ref C) (.type "type") "of" = some (.get (.builtin "classmethod.__get__") (.ref po) .none (.ref C)))
    {rest_of : List Value}
    (r_t_of : PySem.W.recIn K po "classmethod" = some (.ref f_t_of :: rest_of))
    (n_t_of : PySem.W.fnIn K f_t_of = true)
    (l_t_of : K.lookup f_t_of = some ⟨oc_t_of, od_t_of, .func (PySem.W.fnOf "of" "Tree.of" (defArgs s_t_of) (defBody s_t_of) (defScope s_t_of) .none (.ref D_t_of) dc_t_of pm_t_of an_t_of cd_t_of ct_t_of), sl_t_of⟩)
    (c_t_of : PySem.W.codeIn K cd_t_of "Tree.of" = true)
    (k_t_of : PySem.W.keepIn K (.ref f_t_of) = true)
    {tk_t_of : Tok}
    (w_t_of : PySem.W.nsIn K D_t_of "arms" = some (some (.int 2 tk_t_of)))
    (a_t___len__ : PySem.W.findIn K (.ref C) "__len__" = some (some (.ref f_t___len__)))
    (i_t___len__ : PySem.W.isFn K (.ref f_t___len__) = true)
    (n_t___len__ : PySem.W.fnIn K f_t___len__ = true)
    (l_t___len__ : K.lookup f_t___len__ = some ⟨oc_t___len__, od_t___len__, .func (PySem.W.fnOf "__len__" "Tree.__len__" (defArgs s_t___len__) (defBody s_t___len__) (defScope s_t___len__) .none kV_t___len__ dc_t___len__ pm_t___len__ an_t___len__ cd_t___len__ ct_t___len__), sl_t___len__⟩)
    (c_t___len__ : PySem.W.codeIn K cd_t___len__ "Tree.__len__" = true)
    (k_t___len__ : PySem.W.keepIn K (.ref f_t___len__) = true)
    (a_t___iter__ : PySem.W.findIn K (.ref C) "__iter__" = some (some (.ref f_t___iter__)))
    (i_t___iter__ : PySem.W.isFn K (.ref f_t___iter__) = true)
    (n_t___iter__ : PySem.W.fnIn K f_t___iter__ = true)
    (l_t___iter__ : K.lookup f_t___iter__ = some ⟨oc_t___iter__, od_t___iter__, .func (PySem.W.fnOf "__iter__" "Tree.__iter__" (defArgs s_t___iter__) (defBody s_t___iter__) (defScope s_t___iter__) .none kV_t___iter__ dc_t___iter__ pm_t___iter__ an_t___iter__ cd_t___iter__ ct_t___iter__), sl_t___iter__⟩)
    (c_t___iter__ : PySem.W.codeIn K cd_t___iter__ "Tree.__iter__" = true)
    (k_t___iter__ : PySem.W.keepIn K (.ref f_t___iter__) = true)
    (a_t___getitem__ : PySem.W.findIn K (.ref C) "__getitem__" = some (some (.ref f_t___getitem__)))
    (i_t___getitem__ : PySem.W.isFn K (.ref f_t___getitem__) = true)
    (n_t___getitem__ : PySem.W.fnIn K f_t___getitem__ = true)
    (l_t___getitem__ : K.lookup f_t___getitem__ = some ⟨oc_t___getitem__, od_t___getitem__, .func (PySem.W.fnOf "__getitem__" "Tree.__getitem__" (defArgs s_t___getitem__) (defBody s_t___getitem__) (defScope s_t___getitem__) .none kV_t___getitem__ dc_t___getitem__ pm_t___getitem__ an_t___getitem__ cd_t___getitem__ ct_t___getitem__), sl_t___getitem__⟩)
    (c_t___getitem__ : PySem.W.codeIn K cd_t___getitem__ "Tree.__getitem__" = true)
    (k_t___getitem__ : PySem.W.keepIn K (.ref f_t___getitem__) = true)
    (a_t_parent : PySem.W.findIn K (.ref C) "parent" = some (some (.ref f_t_parent)))
    (i_t_parent : PySem.W.isFn K (.ref f_t_parent) = true)
    (l_t_parent : K.lookup f_t_parent = some ⟨oc_t_parent, od_t_parent, .func (PySem.W.fnOf "parent" "Tree.parent" (defArgs s_t_parent) (defBody s_t_parent) (defScope s_t_parent) .none kV_t_parent dc_t_parent pm_t_parent an_t_parent cd_t_parent ct_t_parent), sl_t_parent⟩)
    (c_t_parent : PySem.W.codeIn K cd_t_parent "Tree.parent" = true)
    (k_t_parent : PySem.W.keepIn K (.ref f_t_parent) = true)
    (a_t_way_to : PySem.W.findIn K (.ref C) "way_to" = some (some (.ref f_t_way_to)))
    (i_t_way_to : PySem.W.isFn K (.ref f_t_way_to) = true)
    (l_t_way_to : K.lookup f_t_way_to = some ⟨oc_t_way_to, od_t_way_to, .func (PySem.W.fnOf "way_to" "Tree.way_to" (defArgs s_t_way_to) (defBody s_t_way_to) (defScope s_t_way_to) .none kV_t_way_to dc_t_way_to pm_t_way_to an_t_way_to cd_t_way_to ct_t_way_to), sl_t_way_to⟩)
    (c_t_way_to : PySem.W.codeIn K cd_t_way_to "Tree.way_to" = true)
    (k_t_way_to : PySem.W.keepIn K (.ref f_t_way_to) = true)
    (a_t_depth : PySem.W.findIn K (.ref C) "depth" = some (some (.ref f_t_depth)))
    (i_t_depth : PySem.W.isFn K (.ref f_t_depth) = true)
    (l_t_depth : K.lookup f_t_depth = some ⟨oc_t_depth, od_t_depth, .func (PySem.W.fnOf "depth" "Tree.depth" (defArgs s_t_depth) (defBody s_t_depth) (defScope s_t_depth) .none kV_t_depth dc_t_depth pm_t_depth an_t_depth cd_t_depth ct_t_depth), sl_t_depth⟩)
    (c_t_depth : PySem.W.codeIn K cd_t_depth "Tree.depth" = true)
    (k_t_depth : PySem.W.keepIn K (.ref f_t_depth) = true)
    (a_t_size : PySem.W.findIn K (.ref C) "size" = some (some (.ref f_t_size)))
    (i_t_size : PySem.W.isFn K (.ref f_t_size) = true)
    (l_t_size : K.lookup f_t_size = some ⟨oc_t_size, od_t_size, .func (PySem.W.fnOf "size" "Tree.size" (defArgs s_t_size) (defBody s_t_size) (defScope s_t_size) .none kV_t_size dc_t_size pm_t_size an_t_size cd_t_size ct_t_size), sl_t_size⟩)
    (c_t_size : PySem.W.codeIn K cd_t_size "Tree.size" = true)
    (k_t_size : PySem.W.keepIn K (.ref f_t_size) = true)
    (a_t_subtree : PySem.W.findIn K (.ref C) "subtree" = some (some (.ref f_t_subtree)))
    (i_t_subtree : PySem.W.isFn K (.ref f_t_subtree) = true)
    (l_t_subtree : K.lookup f_t_subtree = some ⟨oc_t_subtree, od_t_subtree, .func (PySem.W.fnOf "subtree" "Tree.subtree" (defArgs s_t_subtree) (defBody s_t_subtree) (defScope s_t_subtree) .none kV_t_subtree dc_t_subtree pm_t_subtree an_t_subtree cd_t_subtree ct_t_subtree), sl_t_subtree⟩)
    (c_t_subtree : PySem.W.codeIn K cd_t_subtree "Tree.subtree" = true)
    (k_t_subtree : PySem.W.keepIn K (.ref f_t_subtree) = true)
    (a_is_heap : PySem.W.nsIn K mainGlobals "is_heap" = some (some (.ref f_is_heap)))
    (l_is_heap : K.lookup f_is_heap = some ⟨oc_is_heap, od_is_heap, .func (PySem.W.fnOf "is_heap" "is_heap" (defArgs s_is_heap) (defBody s_is_heap) (defScope s_is_heap) .none (.ref D_is_heap) dc_is_heap pm_is_heap an_is_heap cd_is_heap ct_is_heap), sl_is_heap⟩)
    (c_is_heap : PySem.W.codeIn K cd_is_heap "is_heap" = true)
    (k_is_heap : PySem.W.keepIn K (.ref f_is_heap) = true)
    {tk_is_heap : Tok}
    (w_is_heap : PySem.W.nsIn K D_is_heap "arms" = some (some (.int 2 tk_is_heap)))
    (a_faults : PySem.W.nsIn K mainGlobals "faults" = some (some (.ref f_faults)))
    (l_faults : K.lookup f_faults = some ⟨oc_faults, od_faults, .func (PySem.W.fnOf "faults" "faults" (defArgs s_faults) (defBody s_faults) (defScope s_faults) .none (.ref D_faults) dc_faults pm_faults an_faults cd_faults ct_faults), sl_faults⟩)
    (c_faults : PySem.W.codeIn K cd_faults "faults" = true)
    (k_faults : PySem.W.keepIn K (.ref f_faults) = true)
    {tk_faults : Tok}
    (w_faults : PySem.W.nsIn K D_faults "arms" = some (some (.int 2 tk_faults)))
    (a_heap_of : PySem.W.nsIn K mainGlobals "heap_of" = some (some (.ref f_heap_of)))
    (l_heap_of : K.lookup f_heap_of = some ⟨oc_heap_of, od_heap_of, .func (PySem.W.fnOf "heap_of" "heap_of" (defArgs s_heap_of) (defBody s_heap_of) (defScope s_heap_of) .none kV_heap_of dc_heap_of pm_heap_of an_heap_of cd_heap_of ct_heap_of), sl_heap_of⟩)
    (c_heap_of : PySem.W.codeIn K cd_heap_of "heap_of" = true)
    (k_heap_of : PySem.W.keepIn K (.ref f_heap_of) = true)
    (a_different_heap_of : PySem.W.nsIn K mainGlobals "different_heap_of" = some (some (.ref f_different_heap_of)))
    (l_different_heap_of : K.lookup f_different_heap_of = some ⟨oc_different_heap_of, od_different_heap_of, .func (PySem.W.fnOf "different_heap_of" "different_heap_of" (defArgs s_different_heap_of) (defBody s_different_heap_of) (defScope s_different_heap_of) .none kV_different_heap_of dc_different_heap_of pm_different_heap_of an_different_heap_of cd_different_heap_of ct_different_heap_of), sl_different_heap_of⟩)
    (c_different_heap_of : PySem.W.codeIn K cd_different_heap_of "different_heap_of" = true)
    (k_different_heap_of : PySem.W.keepIn K (.ref f_different_heap_of) = true)
    (a_how_many : PySem.W.nsIn K mainGlobals "how_many" = some (some (.ref f_how_many)))
    (l_how_many : K.lookup f_how_many = some ⟨oc_how_many, od_how_many, .func (PySem.W.fnOf "how_many" "how_many" (defArgs s_how_many) (defBody s_how_many) (defScope s_how_many) .none (.ref D_how_many) dc_how_many pm_how_many an_how_many cd_how_many ct_how_many), sl_how_many⟩)
    (c_how_many : PySem.W.codeIn K cd_how_many "how_many" = true)
    (k_how_many : PySem.W.keepIn K (.ref f_how_many) = true)
    {tk_how_many : Tok}
    (w_how_many : PySem.W.nsIn K D_how_many "arms" = some (some (.int 2 tk_how_many)))
    (a_z___init__ : PySem.W.findIn K (.ref CS) "__init__" = some (some (.ref f_z___init__)))
    (i_z___init__ : PySem.W.isFn K (.ref f_z___init__) = true)
    (l_z___init__ : K.lookup f_z___init__ = some ⟨oc_z___init__, od_z___init__, .func (PySem.W.fnOf "__init__" "Sift.__init__" (defArgs s_z___init__) (defBody s_z___init__) (defScope s_z___init__) .none kV_z___init__ dc_z___init__ pm_z___init__ an_z___init__ cd_z___init__ ct_z___init__), sl_z___init__⟩)
    (c_z___init__ : PySem.W.codeIn K cd_z___init__ "Sift.__init__" = true)
    (k_z___init__ : PySem.W.keepIn K (.ref f_z___init__) = true)
    (a_sift_down : PySem.W.nsIn K mainGlobals "sift_down" = some (some (.ref f_sift_down)))
    (l_sift_down : K.lookup f_sift_down = some ⟨oc_sift_down, od_sift_down, .func (PySem.W.fnOf "sift_down" "sift_down" (defArgs s_sift_down) (defBody s_sift_down) (defScope s_sift_down) .none (.ref D_sift_down) dc_sift_down pm_sift_down an_sift_down cd_sift_down ct_sift_down), sl_sift_down⟩)
    (c_sift_down : PySem.W.codeIn K cd_sift_down "sift_down" = true)
    (k_sift_down : PySem.W.keepIn K (.ref f_sift_down) = true)
    {tk_sift_down : Tok}
    (w_sift_down : PySem.W.nsIn K D_sift_down "arms" = some (some (.int 2 tk_sift_down)))
    (a_least_child : PySem.W.nsIn K mainGlobals "least_child" = some (some (.ref f_least_child)))
    (l_least_child : K.lookup f_least_child = some ⟨oc_least_child, od_least_child, .func (PySem.W.fnOf "least_child" "least_child" (defArgs s_least_child) (defBody s_least_child) (defScope s_least_child) .none kV_least_child dc_least_child pm_least_child an_least_child (.ref cc_least_child) ct_least_child), sl_least_child⟩)
    (c_least_child : PySem.W.codeIn K (.ref cc_least_child) "least_child" = true)
    (k_least_child : PySem.W.keepIn K (.ref f_least_child) = true)
    (a_row_before : PySem.W.nsIn K mainGlobals "row_before" = some (some (.ref f_row_before)))
    (l_row_before : K.lookup f_row_before = some ⟨oc_row_before, od_row_before, .func (PySem.W.fnOf "row_before" "row_before" (defArgs s_row_before) (defBody s_row_before) (defScope s_row_before) .none kV_row_before dc_row_before pm_row_before an_row_before cd_row_before ct_row_before), sl_row_before⟩)
    (c_row_before : PySem.W.codeIn K cd_row_before "row_before" = true)
    (k_row_before : PySem.W.keepIn K (.ref f_row_before) = true)
    (a_take : PySem.W.nsIn K mainGlobals "take" = some (some (.ref f_take)))
    (l_take : K.lookup f_take = some ⟨oc_take, od_take, .func (PySem.W.fnOf "take" "take" (defArgs s_take) (defBody s_take) (defScope s_take) .none (.ref D_take) dc_take pm_take an_take cd_take ct_take), sl_take⟩)
    (c_take : PySem.W.codeIn K cd_take "take" = true)
    (k_take : PySem.W.keepIn K (.ref f_take) = true)
    {tk_take : Tok}
    (w_take : PySem.W.nsIn K D_take "arms" = some (some (.int 2 tk_take)))
    (a_filled_heap_of : PySem.W.nsIn K mainGlobals "filled_heap_of" = some (some (.ref f_filled_heap_of)))
    (l_filled_heap_of : K.lookup f_filled_heap_of = some ⟨oc_filled_heap_of, od_filled_heap_of, .func (PySem.W.fnOf "filled_heap_of" "filled_heap_of" (defArgs s_filled_heap_of) (defBody s_filled_heap_of) (defScope s_filled_heap_of) .none kV_filled_heap_of dc_filled_heap_of pm_filled_heap_of an_filled_heap_of cd_filled_heap_of ct_filled_heap_of), sl_filled_heap_of⟩)
    (c_filled_heap_of : PySem.W.codeIn K cd_filled_heap_of "filled_heap_of" = true)
    (k_filled_heap_of : PySem.W.keepIn K (.ref f_filled_heap_of) = true)
    (a_check_filled : PySem.W.nsIn K mainGlobals "check_filled" = some (some (.ref f_check_filled)))
    (l_check_filled : K.lookup f_check_filled = some ⟨oc_check_filled, od_check_filled, .func (PySem.W.fnOf "check_filled" "check_filled" (defArgs s_check_filled) (defBody s_check_filled) (defScope s_check_filled) .none kV_check_filled dc_check_filled pm_check_filled an_check_filled cd_check_filled ct_check_filled), sl_check_filled⟩)
    (c_check_filled : PySem.W.codeIn K cd_check_filled "check_filled" = true)
    (k_check_filled : PySem.W.keepIn K (.ref f_check_filled) = true)
    (a_q___init__ : PySem.W.findIn K (.ref CQ) "__init__" = some (some (.ref f_q___init__)))
    (i_q___init__ : PySem.W.isFn K (.ref f_q___init__) = true)
    (l_q___init__ : K.lookup f_q___init__ = some ⟨oc_q___init__, od_q___init__, .func (PySem.W.fnOf "__init__" "Before.__init__" (defArgs s_q___init__) (defBody s_q___init__) (defScope s_q___init__) .none kV_q___init__ dc_q___init__ pm_q___init__ an_q___init__ cd_q___init__ ct_q___init__), sl_q___init__⟩)
    (c_q___init__ : PySem.W.codeIn K cd_q___init__ "Before.__init__" = true)
    (k_q___init__ : PySem.W.keepIn K (.ref f_q___init__) = true)
    (a_q_shows : PySem.W.findIn K (.ref CQ) "shows" = some (some (.ref f_q_shows)))
    (i_q_shows : PySem.W.isFn K (.ref f_q_shows) = true)
    (l_q_shows : K.lookup f_q_shows = some ⟨oc_q_shows, od_q_shows, .func (PySem.W.fnOf "shows" "Before.shows" (defArgs s_q_shows) (defBody s_q_shows) (defScope s_q_shows) .none (.ref D_q_shows) dc_q_shows pm_q_shows an_q_shows cd_q_shows ct_q_shows), sl_q_shows⟩)
    (c_q_shows : PySem.W.codeIn K cd_q_shows "Before.shows" = true)
    (k_q_shows : PySem.W.keepIn K (.ref f_q_shows) = true)
    {tk_q_shows : Tok}
    (w_q_shows : PySem.W.nsIn K D_q_shows "arms" = some (some (.int 2 tk_q_shows)))
    (a_v___init__ : PySem.W.findIn K (.ref CV) "__init__" = some (some (.ref f_v___init__)))
    (i_v___init__ : PySem.W.isFn K (.ref f_v___init__) = true)
    (l_v___init__ : K.lookup f_v___init__ = some ⟨oc_v___init__, od_v___init__, .func (PySem.W.fnOf "__init__" "Over.__init__" (defArgs s_v___init__) (defBody s_v___init__) (defScope s_v___init__) .none kV_v___init__ dc_v___init__ pm_v___init__ an_v___init__ cd_v___init__ ct_v___init__), sl_v___init__⟩)
    (c_v___init__ : PySem.W.codeIn K cd_v___init__ "Over.__init__" = true)
    (k_v___init__ : PySem.W.keepIn K (.ref f_v___init__) = true)
    (a_v_shows : PySem.W.findIn K (.ref CV) "shows" = some (some (.ref f_v_shows)))
    (i_v_shows : PySem.W.isFn K (.ref f_v_shows) = true)
    (l_v_shows : K.lookup f_v_shows = some ⟨oc_v_shows, od_v_shows, .func (PySem.W.fnOf "shows" "Over.shows" (defArgs s_v_shows) (defBody s_v_shows) (defScope s_v_shows) .none (.ref D_v_shows) dc_v_shows pm_v_shows an_v_shows cd_v_shows ct_v_shows), sl_v_shows⟩)
    (c_v_shows : PySem.W.codeIn K cd_v_shows "Over.shows" = true)
    (k_v_shows : PySem.W.keepIn K (.ref f_v_shows) = true)
    {tk_v_shows : Tok}
    (w_v_shows : PySem.W.nsIn K D_v_shows "arms" = some (some (.int 2 tk_v_shows)))
    (a_undo_take : PySem.W.nsIn K mainGlobals "undo_take" = some (some (.ref f_undo_take)))
    (l_undo_take : K.lookup f_undo_take = some ⟨oc_undo_take, od_undo_take, .func (PySem.W.fnOf "undo_take" "undo_take" (defArgs s_undo_take) (defBody s_undo_take) (defScope s_undo_take) .none (.ref D_undo_take) dc_undo_take pm_undo_take an_undo_take cd_undo_take ct_undo_take), sl_undo_take⟩)
    (c_undo_take : PySem.W.codeIn K cd_undo_take "undo_take" = true)
    (k_undo_take : PySem.W.keepIn K (.ref f_undo_take) = true)
    {tk_undo_take : Tok}
    (w_undo_take : PySem.W.nsIn K D_undo_take "arms" = some (some (.int 2 tk_undo_take)))
    (a_places_behind : PySem.W.nsIn K mainGlobals "places_behind" = some (some (.ref f_places_behind)))
    (l_places_behind : K.lookup f_places_behind = some ⟨oc_places_behind, od_places_behind, .func (PySem.W.fnOf "places_behind" "places_behind" (defArgs s_places_behind) (defBody s_places_behind) (defScope s_places_behind) .none (.ref D_places_behind) dc_places_behind pm_places_behind an_places_behind cd_places_behind ct_places_behind), sl_places_behind⟩)
    (c_places_behind : PySem.W.codeIn K cd_places_behind "places_behind" = true)
    (k_places_behind : PySem.W.keepIn K (.ref f_places_behind) = true)
    {tk_places_behind : Tok}
    (w_places_behind : PySem.W.nsIn K D_places_behind "arms" = some (some (.int 2 tk_places_behind)))
    (a_heap_with_room : PySem.W.nsIn K mainGlobals "heap_with_room" = some (some (.ref f_heap_with_room)))
    (l_heap_with_room : K.lookup f_heap_with_room = some ⟨oc_heap_with_room, od_heap_with_room, .func (PySem.W.fnOf "heap_with_room" "heap_with_room" (defArgs s_heap_with_room) (defBody s_heap_with_room) (defScope s_heap_with_room) .none kV_heap_with_room dc_heap_with_room pm_heap_with_room an_heap_with_room cd_heap_with_room ct_heap_with_room), sl_heap_with_room⟩)
    (c_heap_with_room : PySem.W.codeIn K cd_heap_with_room "heap_with_room" = true)
    (k_heap_with_room : PySem.W.keepIn K (.ref f_heap_with_room) = true)
    (a_heap_after : PySem.W.nsIn K mainGlobals "heap_after" = some (some (.ref f_heap_after)))
    (l_heap_after : K.lookup f_heap_after = some ⟨oc_heap_after, od_heap_after, .func (PySem.W.fnOf "heap_after" "heap_after" (defArgs s_heap_after) (defBody s_heap_after) (defScope s_heap_after) .none kV_heap_after dc_heap_after pm_heap_after an_heap_after cd_heap_after ct_heap_after), sl_heap_after⟩)
    (c_heap_after : PySem.W.codeIn K cd_heap_after "heap_after" = true)
    (k_heap_after : PySem.W.keepIn K (.ref f_heap_after) = true)
    (a_place_over_next : PySem.W.nsIn K mainGlobals "place_over_next" = some (some (.ref f_place_over_next)))
    (l_place_over_next : K.lookup f_place_over_next = some ⟨oc_place_over_next, od_place_over_next, .func (PySem.W.fnOf "place_over_next" "place_over_next" (defArgs s_place_over_next) (defBody s_place_over_next) (defScope s_place_over_next) .none kV_place_over_next dc_place_over_next pm_place_over_next an_place_over_next cd_place_over_next ct_place_over_next), sl_place_over_next⟩)
    (c_place_over_next : PySem.W.codeIn K cd_place_over_next "place_over_next" = true)
    (k_place_over_next : PySem.W.keepIn K (.ref f_place_over_next) = true)
    (a__law_number : PySem.W.nsIn K mainGlobals "_law_number" = some (some (.ref f__law_number)))
    (l__law_number : K.lookup f__law_number = some ⟨oc__law_number, od__law_number, .func (PySem.W.fnOf "_law_number" "_law_number" (defArgs s__law_number) (defBody s__law_number) (defScope s__law_number) .none kV__law_number dc__law_number pm__law_number an__law_number cd__law_number ct__law_number), sl__law_number⟩)
    (c__law_number : PySem.W.codeIn K cd__law_number "_law_number" = true)
    (k__law_number : PySem.W.keepIn K (.ref f__law_number) = true)
    (a__law_take : PySem.W.nsIn K mainGlobals "_law_take" = some (some (.ref f__law_take)))
    (l__law_take : K.lookup f__law_take = some ⟨oc__law_take, od__law_take, .func (PySem.W.fnOf "_law_take" "_law_take" (defArgs s__law_take) (defBody s__law_take) (defScope s__law_take) .none kV__law_take dc__law_take pm__law_take an__law_take cd__law_take ct__law_take), sl__law_take⟩)
    (c__law_take : PySem.W.codeIn K cd__law_take "_law_take" = true)
    (k__law_take : PySem.W.keepIn K (.ref f__law_take) = true)
    (a__law_pick : PySem.W.nsIn K mainGlobals "_law_pick" = some (some (.ref f__law_pick)))
    (l__law_pick : K.lookup f__law_pick = some ⟨oc__law_pick, od__law_pick, .func (PySem.W.fnOf "_law_pick" "_law_pick" (defArgs s__law_pick) (defBody s__law_pick) (defScope s__law_pick) .none kV__law_pick dc__law_pick pm__law_pick an__law_pick cd__law_pick ct__law_pick), sl__law_pick⟩)
    (c__law_pick : PySem.W.codeIn K cd__law_pick "_law_pick" = true)
    (k__law_pick : PySem.W.keepIn K (.ref f__law_pick) = true)
    (a__law_parent : PySem.W.nsIn K mainGlobals "_law_parent" = some (some (.ref f__law_parent)))
    (l__law_parent : K.lookup f__law_parent = some ⟨oc__law_parent, od__law_parent, .func (PySem.W.fnOf "_law_parent" "_law_parent" (defArgs s__law_parent) (defBody s__law_parent) (defScope s__law_parent) .none kV__law_parent dc__law_parent pm__law_parent an__law_parent cd__law_parent ct__law_parent), sl__law_parent⟩)
    (c__law_parent : PySem.W.codeIn K cd__law_parent "_law_parent" = true)
    (k__law_parent : PySem.W.keepIn K (.ref f__law_parent) = true)
    (a__law_children : PySem.W.nsIn K mainGlobals "_law_children" = some (some (.ref f__law_children)))
    (l__law_children : K.lookup f__law_children = some ⟨oc__law_children, od__law_children, .func (PySem.W.fnOf "_law_children" "_law_children" (defArgs s__law_children) (defBody s__law_children) (defScope s__law_children) .none kV__law_children dc__law_children pm__law_children an__law_children cd__law_children ct__law_children), sl__law_children⟩)
    (c__law_children : PySem.W.codeIn K cd__law_children "_law_children" = true)
    (k__law_children : PySem.W.keepIn K (.ref f__law_children) = true)
    (a__law_way : PySem.W.nsIn K mainGlobals "_law_way" = some (some (.ref f__law_way)))
    (l__law_way : K.lookup f__law_way = some ⟨oc__law_way, od__law_way, .func (PySem.W.fnOf "_law_way" "_law_way" (defArgs s__law_way) (defBody s__law_way) (defScope s__law_way) .none kV__law_way dc__law_way pm__law_way an__law_way cd__law_way ct__law_way), sl__law_way⟩)
    (c__law_way : PySem.W.codeIn K cd__law_way "_law_way" = true)
    (k__law_way : PySem.W.keepIn K (.ref f__law_way) = true)
    (a__law_arms : PySem.W.nsIn K mainGlobals "_law_arms" = some (some (.ref f__law_arms)))
    (l__law_arms : K.lookup f__law_arms = some ⟨oc__law_arms, od__law_arms, .func (PySem.W.fnOf "_law_arms" "_law_arms" (defArgs s__law_arms) (defBody s__law_arms) (defScope s__law_arms) .none kV__law_arms dc__law_arms pm__law_arms an__law_arms cd__law_arms ct__law_arms), sl__law_arms⟩)
    (c__law_arms : PySem.W.codeIn K cd__law_arms "_law_arms" = true)
    (k__law_arms : PySem.W.keepIn K (.ref f__law_arms) = true)
    (a__law_order : PySem.W.nsIn K mainGlobals "_law_order" = some (some (.ref f__law_order)))
    (l__law_order : K.lookup f__law_order = some ⟨oc__law_order, od__law_order, .func (PySem.W.fnOf "_law_order" "_law_order" (defArgs s__law_order) (defBody s__law_order) (defScope s__law_order) .none kV__law_order dc__law_order pm__law_order an__law_order cd__law_order ct__law_order), sl__law_order⟩)
    (c__law_order : PySem.W.codeIn K cd__law_order "_law_order" = true)
    (k__law_order : PySem.W.keepIn K (.ref f__law_order) = true)
    (a__law_is_heap : PySem.W.nsIn K mainGlobals "_law_is_heap" = some (some (.ref f__law_is_heap)))
    (l__law_is_heap : K.lookup f__law_is_heap = some ⟨oc__law_is_heap, od__law_is_heap, .func (PySem.W.fnOf "_law_is_heap" "_law_is_heap" (defArgs s__law_is_heap) (defBody s__law_is_heap) (defScope s__law_is_heap) .none kV__law_is_heap dc__law_is_heap pm__law_is_heap an__law_is_heap cd__law_is_heap ct__law_is_heap), sl__law_is_heap⟩)
    (c__law_is_heap : PySem.W.codeIn K cd__law_is_heap "_law_is_heap" = true)
    (k__law_is_heap : PySem.W.keepIn K (.ref f__law_is_heap) = true)
    (a__law_lists : PySem.W.nsIn K mainGlobals "_law_lists" = some (some (.ref f__law_lists)))
    (l__law_lists : K.lookup f__law_lists = some ⟨oc__law_lists, od__law_lists, .func (PySem.W.fnOf "_law_lists" "_law_lists" (defArgs s__law_lists) (defBody s__law_lists) (defScope s__law_lists) .none kV__law_lists dc__law_lists pm__law_lists an__law_lists cd__law_lists ct__law_lists), sl__law_lists⟩)
    (c__law_lists : PySem.W.codeIn K cd__law_lists "_law_lists" = true)
    (k__law_lists : PySem.W.keepIn K (.ref f__law_lists) = true)
    (a__law_heaps : PySem.W.nsIn K mainGlobals "_law_heaps" = some (some (.ref f__law_heaps)))
    (l__law_heaps : K.lookup f__law_heaps = some ⟨oc__law_heaps, od__law_heaps, .func (PySem.W.fnOf "_law_heaps" "_law_heaps" (defArgs s__law_heaps) (defBody s__law_heaps) (defScope s__law_heaps) .none kV__law_heaps dc__law_heaps pm__law_heaps an__law_heaps cd__law_heaps ct__law_heaps), sl__law_heaps⟩)
    (c__law_heaps : PySem.W.codeIn K cd__law_heaps "_law_heaps" = true)
    (k__law_heaps : PySem.W.keepIn K (.ref f__law_heaps) = true)
    (a__law_down : PySem.W.nsIn K mainGlobals "_law_down" = some (some (.ref f__law_down)))
    (l__law_down : K.lookup f__law_down = some ⟨oc__law_down, od__law_down, .func (PySem.W.fnOf "_law_down" "_law_down" (defArgs s__law_down) (defBody s__law_down) (defScope s__law_down) .none kV__law_down dc__law_down pm__law_down an__law_down cd__law_down ct__law_down), sl__law_down⟩)
    (c__law_down : PySem.W.codeIn K cd__law_down "_law_down" = true)
    (k__law_down : PySem.W.keepIn K (.ref f__law_down) = true)
    (a__law_out : PySem.W.nsIn K mainGlobals "_law_out" = some (some (.ref f__law_out)))
    (l__law_out : K.lookup f__law_out = some ⟨oc__law_out, od__law_out, .func (PySem.W.fnOf "_law_out" "_law_out" (defArgs s__law_out) (defBody s__law_out) (defScope s__law_out) .none kV__law_out dc__law_out pm__law_out an__law_out cd__law_out ct__law_out), sl__law_out⟩)
    (c__law_out : PySem.W.codeIn K cd__law_out "_law_out" = true)
    (k__law_out : PySem.W.keepIn K (.ref f__law_out) = true)
    (a__law_unlike : PySem.W.nsIn K mainGlobals "_law_unlike" = some (some (.ref f__law_unlike)))
    (l__law_unlike : K.lookup f__law_unlike = some ⟨oc__law_unlike, od__law_unlike, .func (PySem.W.fnOf "_law_unlike" "_law_unlike" (defArgs s__law_unlike) (defBody s__law_unlike) (defScope s__law_unlike) .none kV__law_unlike dc__law_unlike pm__law_unlike an__law_unlike cd__law_unlike ct__law_unlike), sl__law_unlike⟩)
    (c__law_unlike : PySem.W.codeIn K cd__law_unlike "_law_unlike" = true)
    (k__law_unlike : PySem.W.keepIn K (.ref f__law_unlike) = true)
    (a_law : PySem.W.nsIn K mainGlobals "law" = some (some (.ref f_law)))
    (l_law : K.lookup f_law = some ⟨oc_law, od_law, .func (PySem.W.fnOf "law" "law" (defArgs s_law) (defBody s_law) (defScope s_law) .none kV_law dc_law pm_law an_law cd_law ct_law), sl_law⟩)
    (c_law : PySem.W.codeIn K cd_law "law" = true)
    (k_law : PySem.W.keepIn K (.ref f_law) = true)
    {tc_GREATEST_KEY : Tok}
    (q_GREATEST_KEY : PySem.W.nsIn K mainGlobals "GREATEST_KEY" = some (some (.int 1000000000 tc_GREATEST_KEY)))
    {tc_MOST_ARMS : Tok}
    (q_MOST_ARMS : PySem.W.nsIn K mainGlobals "MOST_ARMS" = some (some (.int 4 tc_MOST_ARMS)))
    {tc_MOST_PLACES : Tok}
    (q_MOST_PLACES : PySem.W.nsIn K mainGlobals "MOST_PLACES" = some (some (.int 12 tc_MOST_PLACES)))
    (y_factorial : PySem.W.nsIn K mainGlobals "factorial" = some (some (.builtin "math.factorial")))
    (z_any : PySem.W.nsIn K mainGlobals "any" = some none)
    (z_bool : PySem.W.nsIn K mainGlobals "bool" = some none)
    (z_enumerate : PySem.W.nsIn K mainGlobals "enumerate" = some none)
    (z_int : PySem.W.nsIn K mainGlobals "int" = some none)
    (z_isinstance : PySem.W.nsIn K mainGlobals "isinstance" = some none)
    (z_iter : PySem.W.nsIn K mainGlobals "iter" = some none)
    (z_len : PySem.W.nsIn K mainGlobals "len" = some none)
    (z_list : PySem.W.nsIn K mainGlobals "list" = some none)
    (z_min : PySem.W.nsIn K mainGlobals "min" = some none)
    (z_range : PySem.W.nsIn K mainGlobals "range" = some none)
    (z_sorted : PySem.W.nsIn K mainGlobals "sorted" = some none)
    (z_sum : PySem.W.nsIn K mainGlobals "sum" = some none)
    (z_tuple : PySem.W.nsIn K mainGlobals "tuple" = some none)
    (z_zip : PySem.W.nsIn K mainGlobals "zip" = some none)
    (pg : PySem.W.plainGet K C Str.empty = true)
    (hd : PySem.W.hasDictIn K C = true)
    (po_ : PySem.W.plainOver K C = true)
    (sa : PySem.W.findIn K (.ref C) "__setattr__" = some (some (.builtin "object.__setattr__")))
    (na_nMany : PySem.W.findIn K (.ref C) "many" = some none)
    (na_nArms : PySem.W.findIn K (.ref C) "arms" = some none)
    (na_nPl : PySem.W.findIn K (.ref C) "_places" = some none)
    (mk : PySem.W.makesIn K C = true)
    (kc : PySem.W.keepIn K (.ref C) = true)
    (rd : PySem.W.readsIn K C (.type "type") = true)
    (ga : PySem.W.specialIn K (.ref C) "__getattribute__" = some (some (.builtin "type.__getattribute__")))
    (pgS : PySem.W.plainGet K CS Str.empty = true)
    (hdS : PySem.W.hasDictIn K CS = true)
    (po_S : PySem.W.plainOver K CS = true)
    (saS : PySem.W.findIn K (.ref CS) "__setattr__" = some (some (.builtin "object.__setattr__")))
    (na_nRow : PySem.W.findIn K (.ref CS) "row" = some none)
    (na_nWay : PySem.W.findIn K (.ref CS) "way" = some none)
    (na_nLooks : PySem.W.findIn K (.ref CS) "looks" = some none)
    (mkS : PySem.W.makesIn K CS = true)
    (kcS : PySem.W.keepIn K (.ref CS) = true)
    (pgQ : PySem.W.plainGet K CQ Str.empty = true)
    (hdQ : PySem.W.hasDictIn K CQ = true)
    (po_Q : PySem.W.plainOver K CQ = true)
    (saQ : PySem.W.findIn K (.ref CQ) "__setattr__" = some (some (.builtin "object.__setattr__")))
    (na_qRow : PySem.W.findIn K (.ref CQ) "row" = some none)
    (mkQ : PySem.W.makesIn K CQ = true)
    (kcQ : PySem.W.keepIn K (.ref CQ) = true)
    (kaQ : PySem.W.findIn K (.ref CQ) "__class__" = some (some (.builtin "object.__class__")))
    (knQ : PySem.W.specialIn K (.builtin "object.__class__") "__get__" = some (some (.builtin "getset_descriptor.__get__")))
    (ktkQ : PySem.W.takesIn K (.builtin "object.__class__") = some true)
    (kmQ : PySem.W.mroIn K CQ (.type "object") = some true)
    (kclQ : PySem.W.isClsIn K CQ = true)
    (ktyQ : PySem.W.typeIn K (.ref CQ) = some (.type "type"))
    (ensQ_Over : PySem.W.subIn K (.ref CV) (.ref CQ) = some false)
    (nesQ_Over : (CV == CQ) = false)
    (pgV : PySem.W.plainGet K CV Str.empty = true)
    (hdV : PySem.W.hasDictIn K CV = true)
    (po_V : PySem.W.plainOver K CV = true)
    (saV : PySem.W.findIn K (.ref CV) "__setattr__" = some (some (.builtin "object.__setattr__")))
    (na_vPlace : PySem.W.findIn K (.ref CV) "place" = some none)
    (na_vKey : PySem.W.findIn K (.ref CV) "key" = some none)
    (mkV : PySem.W.makesIn K CV = true)
    (kcV : PySem.W.keepIn K (.ref CV) = true)
    (kaV : PySem.W.findIn K (.ref CV) "__class__" = some (some (.builtin "object.__class__")))
    (knV : PySem.W.specialIn K (.builtin "object.__class__") "__get__" = some (some (.builtin "getset_descriptor.__get__")))
    (ktkV : PySem.W.takesIn K (.builtin "object.__class__") = some true)
    (kmV : PySem.W.mroIn K CV (.type "object") = some true)
    (kclV : PySem.W.isClsIn K CV = true)
    (ktyV : PySem.W.typeIn K (.ref CV) = some (.type "type"))
    (ensV_Before : PySem.W.subIn K (.ref CQ) (.ref CV) = some false)
    (nesV_Before : (CQ == CV) = false)
    (hT_least_child : h.get? PP_least_child = some (PySem.W.tabObj #[])) (hC_least_child : PySem.W.codeHdIn K cc_least_child PP_least_child = true) (hN_least_child : K.lookup PP_least_child = none)
    : LamX.LawAtS l w K CX0 15 63 "script" mg fa h := by
  have e := hfa.symm.trans (PySem.W.mg_of X G a_law)
  cases e
  let A : Ad := { f_is_integer := f_is_integer, d_is_integer := (PySem.W.fnOf "is_integer" "is_integer" (defArgs s_is_integer) (defBody s_is_integer) (defScope s_is_integer) .none kV_is_integer dc_is_integer pm_is_integer an_is_integer cd_is_integer ct_is_integer), f_is_integer_from := f_is_integer_from, d_is_integer_from := (PySem.W.fnOf "is_integer_from" "is_integer_from" (defArgs s_is_integer_from) (defBody s_is_integer_from) (defScope s_is_integer_from) .none kV_is_integer_from dc_is_integer_from pm_is_integer_from an_is_integer_from cd_is_integer_from ct_is_integer_from), f_is_key := f_is_key, d_is_key := (PySem.W.fnOf "is_key" "is_key" (defArgs s_is_key) (defBody s_is_key) (defScope s_is_key) .none kV_is_key dc_is_key pm_is_key an_is_key cd_is_key ct_is_key), f_check_arms := f_check_arms, d_check_arms := (PySem.W.fnOf "check_arms" "check_arms" (defArgs s_check_arms) (defBody s_check_arms) (defScope s_check_arms) .none kV_check_arms dc_check_arms pm_check_arms an_check_arms cd_check_arms ct_check_arms), f_check_many := f_check_many, d_check_many := (PySem.W.fnOf "check_many" "check_many" (defArgs s_check_many) (defBody s_check_many) (defScope s_check_many) .none kV_check_many dc_check_many pm_check_many an_check_many cd_check_many ct_check_many), f_check_place := f_check_place, d_check_place := (PySem.W.fnOf "check_place" "check_place" (defArgs s_check_place) (defBody s_check_place) (defScope s_check_place) .none kV_check_place dc_check_place pm_check_place an_check_place cd_check_place ct_check_place), f_check_key := f_check_key, d_check_key := (PySem.W.fnOf "check_key" "check_key" (defArgs s_check_key) (defBody s_check_key) (defScope s_check_key) .none kV_check_key dc_check_key pm_check_key an_check_key cd_check_key ct_check_key), f_row_of := f_row_of, d_row_of := (PySem.W.fnOf "row_of" "row_of" (defArgs s_row_of) (defBody s_row_of) (defScope s_row_of) .none kV_row_of dc_row_of pm_row_of an_row_of cd_row_of ct_row_of), f_check_different := f_check_different, d_check_different := (PySem.W.fnOf "check_different" "check_different" (defArgs s_check_different) (defBody s_check_different) (defScope s_check_different) .none kV_check_different dc_check_different pm_check_different an_check_different cd_check_different ct_check_different), f_t___init__ := f_t___init__, d_t___init__ := (PySem.W.fnOf "__init__" "Tree.__init__" (defArgs s_t___init__) (defBody s_t___init__) (defScope s_t___init__) .none (.ref D_t___init__) dc_t___init__ pm_t___init__ an_t___init__ cd_t___init__ ct_t___init__), f_t_of := f_t_of, d_t_of := (PySem.W.fnOf "of" "Tree.of" (defArgs s_t_of) (defBody s_t_of) (defScope s_t_of) .none (.ref D_t_of) dc_t_of pm_t_of an_t_of cd_t_of ct_t_of), f_t___len__ := f_t___len__, d_t___len__ := (PySem.W.fnOf "__len__" "Tree.__len__" (defArgs s_t___len__) (defBody s_t___len__) (defScope s_t___len__) .none kV_t___len__ dc_t___len__ pm_t___len__ an_t___len__ cd_t___len__ ct_t___len__), f_t___iter__ := f_t___iter__, d_t___iter__ := (PySem.W.fnOf "__iter__" "Tree.__iter__" (defArgs s_t___iter__) (defBody s_t___iter__) (defScope s_t___iter__) .none kV_t___iter__ dc_t___iter__ pm_t___iter__ an_t___iter__ cd_t___iter__ ct_t___iter__), f_t___getitem__ := f_t___getitem__, d_t___getitem__ := (PySem.W.fnOf "__getitem__" "Tree.__getitem__" (defArgs s_t___getitem__) (defBody s_t___getitem__) (defScope s_t___getitem__) .none kV_t___getitem__ dc_t___getitem__ pm_t___getitem__ an_t___getitem__ cd_t___getitem__ ct_t___getitem__), f_t_parent := f_t_parent, d_t_parent := (PySem.W.fnOf "parent" "Tree.parent" (defArgs s_t_parent) (defBody s_t_parent) (defScope s_t_parent) .none kV_t_parent dc_t_parent pm_t_parent an_t_parent cd_t_parent ct_t_parent), f_t_way_to := f_t_way_to, d_t_way_to := (PySem.W.fnOf "way_to" "Tree.way_to" (defArgs s_t_way_to) (defBody s_t_way_to) (defScope s_t_way_to) .none kV_t_way_to dc_t_way_to pm_t_way_to an_t_way_to cd_t_way_to ct_t_way_to), f_t_depth := f_t_depth, d_t_depth := (PySem.W.fnOf "depth" "Tree.depth" (defArgs s_t_depth) (defBody s_t_depth) (defScope s_t_depth) .none kV_t_depth dc_t_depth pm_t_depth an_t_depth cd_t_depth ct_t_depth), f_t_size := f_t_size, d_t_size := (PySem.W.fnOf "size" "Tree.size" (defArgs s_t_size) (defBody s_t_size) (defScope s_t_size) .none kV_t_size dc_t_size pm_t_size an_t_size cd_t_size ct_t_size), f_t_subtree := f_t_subtree, d_t_subtree := (PySem.W.fnOf "subtree" "Tree.subtree" (defArgs s_t_subtree) (defBody s_t_subtree) (defScope s_t_subtree) .none kV_t_subtree dc_t_subtree pm_t_subtree an_t_subtree cd_t_subtree ct_t_subtree), f_is_heap := f_is_heap, d_is_heap := (PySem.W.fnOf "is_heap" "is_heap" (defArgs s_is_heap) (defBody s_is_heap) (defScope s_is_heap) .none (.ref D_is_heap) dc_is_heap pm_is_heap an_is_heap cd_is_heap ct_is_heap), f_faults := f_faults, d_faults := (PySem.W.fnOf "faults" "faults" (defArgs s_faults) (defBody s_faults) (defScope s_faults) .none (.ref D_faults) dc_faults pm_faults an_faults cd_faults ct_faults), f_heap_of := f_heap_of, d_heap_of := (PySem.W.fnOf "heap_of" "heap_of" (defArgs s_heap_of) (defBody s_heap_of) (defScope s_heap_of) .none kV_heap_of dc_heap_of pm_heap_of an_heap_of cd_heap_of ct_heap_of), f_different_heap_of := f_different_heap_of, d_different_heap_of := (PySem.W.fnOf "different_heap_of" "different_heap_of" (defArgs s_different_heap_of) (defBody s_different_heap_of) (defScope s_different_heap_of) .none kV_different_heap_of dc_different_heap_of pm_different_heap_of an_different_heap_of cd_different_heap_of ct_different_heap_of), f_how_many := f_how_many, d_how_many := (PySem.W.fnOf "how_many" "how_many" (defArgs s_how_many) (defBody s_how_many) (defScope s_how_many) .none (.ref D_how_many) dc_how_many pm_how_many an_how_many cd_how_many ct_how_many), f_z___init__ := f_z___init__, d_z___init__ := (PySem.W.fnOf "__init__" "Sift.__init__" (defArgs s_z___init__) (defBody s_z___init__) (defScope s_z___init__) .none kV_z___init__ dc_z___init__ pm_z___init__ an_z___init__ cd_z___init__ ct_z___init__), f_sift_down := f_sift_down, d_sift_down := (PySem.W.fnOf "sift_down" "sift_down" (defArgs s_sift_down) (defBody s_sift_down) (defScope s_sift_down) .none (.ref D_sift_down) dc_sift_down pm_sift_down an_sift_down cd_sift_down ct_sift_down), f_least_child := f_least_child, d_least_child := (PySem.W.fnOf "least_child" "least_child" (defArgs s_least_child) (defBody s_least_child) (defScope s_least_child) .none kV_least_child dc_least_child pm_least_child an_least_child (.ref cc_least_child) ct_least_child), f_row_before := f_row_before, d_row_before := (PySem.W.fnOf "row_before" "row_before" (defArgs s_row_before) (defBody s_row_before) (defScope s_row_before) .none kV_row_before dc_row_before pm_row_before an_row_before cd_row_before ct_row_before), f_take := f_take, d_take := (PySem.W.fnOf "take" "take" (defArgs s_take) (defBody s_take) (defScope s_take) .none (.ref D_take) dc_take pm_take an_take cd_take ct_take), f_filled_heap_of := f_filled_heap_of, d_filled_heap_of := (PySem.W.fnOf "filled_heap_of" "filled_heap_of" (defArgs s_filled_heap_of) (defBody s_filled_heap_of) (defScope s_filled_heap_of) .none kV_filled_heap_of dc_filled_heap_of pm_filled_heap_of an_filled_heap_of cd_filled_heap_of ct_filled_heap_of), f_check_filled := f_check_filled, d_check_filled := (PySem.W.fnOf "check_filled" "check_filled" (defArgs s_check_filled) (defBody s_check_filled) (defScope s_check_filled) .none kV_check_filled dc_check_filled pm_check_filled an_check_filled cd_check_filled ct_check_filled), f_q___init__ := f_q___init__, d_q___init__ := (PySem.W.fnOf "__init__" "Before.__init__" (defArgs s_q___init__) (defBody s_q___init__) (defScope s_q___init__) .none kV_q___init__ dc_q___init__ pm_q___init__ an_q___init__ cd_q___init__ ct_q___init__), f_q_shows := f_q_shows, d_q_shows := (PySem.W.fnOf "shows" "Before.shows" (defArgs s_q_shows) (defBody s_q_shows) (defScope s_q_shows) .none (.ref D_q_shows) dc_q_shows pm_q_shows an_q_shows cd_q_shows ct_q_shows), f_v___init__ := f_v___init__, d_v___init__ := (PySem.W.fnOf "__init__" "Over.__init__" (defArgs s_v___init__) (defBody s_v___init__) (defScope s_v___init__) .none kV_v___init__ dc_v___init__ pm_v___init__ an_v___init__ cd_v___init__ ct_v___init__), f_v_shows := f_v_shows, d_v_shows := (PySem.W.fnOf "shows" "Over.shows" (defArgs s_v_shows) (defBody s_v_shows) (defScope s_v_shows) .none (.ref D_v_shows) dc_v_shows pm_v_shows an_v_shows cd_v_shows ct_v_shows), f_undo_take := f_undo_take, d_undo_take := (PySem.W.fnOf "undo_take" "undo_take" (defArgs s_undo_take) (defBody s_undo_take) (defScope s_undo_take) .none (.ref D_undo_take) dc_undo_take pm_undo_take an_undo_take cd_undo_take ct_undo_take), f_places_behind := f_places_behind, d_places_behind := (PySem.W.fnOf "places_behind" "places_behind" (defArgs s_places_behind) (defBody s_places_behind) (defScope s_places_behind) .none (.ref D_places_behind) dc_places_behind pm_places_behind an_places_behind cd_places_behind ct_places_behind), f_heap_with_room := f_heap_with_room, d_heap_with_room := (PySem.W.fnOf "heap_with_room" "heap_with_room" (defArgs s_heap_with_room) (defBody s_heap_with_room) (defScope s_heap_with_room) .none kV_heap_with_room dc_heap_with_room pm_heap_with_room an_heap_with_room cd_heap_with_room ct_heap_with_room), f_heap_after := f_heap_after, d_heap_after := (PySem.W.fnOf "heap_after" "heap_after" (defArgs s_heap_after) (defBody s_heap_after) (defScope s_heap_after) .none kV_heap_after dc_heap_after pm_heap_after an_heap_after cd_heap_after ct_heap_after), f_place_over_next := f_place_over_next, d_place_over_next := (PySem.W.fnOf "place_over_next" "place_over_next" (defArgs s_place_over_next) (defBody s_place_over_next) (defScope s_place_over_next) .none kV_place_over_next dc_place_over_next pm_place_over_next an_place_over_next cd_place_over_next ct_place_over_next), f__law_number := f__law_number, d__law_number := (PySem.W.fnOf "_law_number" "_law_number" (defArgs s__law_number) (defBody s__law_number) (defScope s__law_number) .none kV__law_number dc__law_number pm__law_number an__law_number cd__law_number ct__law_number), f__law_take := f__law_take, d__law_take := (PySem.W.fnOf "_law_take" "_law_take" (defArgs s__law_take) (defBody s__law_take) (defScope s__law_take) .none kV__law_take dc__law_take pm__law_take an__law_take cd__law_take ct__law_take), f__law_pick := f__law_pick, d__law_pick := (PySem.W.fnOf "_law_pick" "_law_pick" (defArgs s__law_pick) (defBody s__law_pick) (defScope s__law_pick) .none kV__law_pick dc__law_pick pm__law_pick an__law_pick cd__law_pick ct__law_pick), f__law_parent := f__law_parent, d__law_parent := (PySem.W.fnOf "_law_parent" "_law_parent" (defArgs s__law_parent) (defBody s__law_parent) (defScope s__law_parent) .none kV__law_parent dc__law_parent pm__law_parent an__law_parent cd__law_parent ct__law_parent), f__law_children := f__law_children, d__law_children := (PySem.W.fnOf "_law_children" "_law_children" (defArgs s__law_children) (defBody s__law_children) (defScope s__law_children) .none kV__law_children dc__law_children pm__law_children an__law_children cd__law_children ct__law_children), f__law_way := f__law_way, d__law_way := (PySem.W.fnOf "_law_way" "_law_way" (defArgs s__law_way) (defBody s__law_way) (defScope s__law_way) .none kV__law_way dc__law_way pm__law_way an__law_way cd__law_way ct__law_way), f__law_arms := f__law_arms, d__law_arms := (PySem.W.fnOf "_law_arms" "_law_arms" (defArgs s__law_arms) (defBody s__law_arms) (defScope s__law_arms) .none kV__law_arms dc__law_arms pm__law_arms an__law_arms cd__law_arms ct__law_arms), f__law_order := f__law_order, d__law_order := (PySem.W.fnOf "_law_order" "_law_order" (defArgs s__law_order) (defBody s__law_order) (defScope s__law_order) .none kV__law_order dc__law_order pm__law_order an__law_order cd__law_order ct__law_order), f__law_is_heap := f__law_is_heap, d__law_is_heap := (PySem.W.fnOf "_law_is_heap" "_law_is_heap" (defArgs s__law_is_heap) (defBody s__law_is_heap) (defScope s__law_is_heap) .none kV__law_is_heap dc__law_is_heap pm__law_is_heap an__law_is_heap cd__law_is_heap ct__law_is_heap), f__law_lists := f__law_lists, d__law_lists := (PySem.W.fnOf "_law_lists" "_law_lists" (defArgs s__law_lists) (defBody s__law_lists) (defScope s__law_lists) .none kV__law_lists dc__law_lists pm__law_lists an__law_lists cd__law_lists ct__law_lists), f__law_heaps := f__law_heaps, d__law_heaps := (PySem.W.fnOf "_law_heaps" "_law_heaps" (defArgs s__law_heaps) (defBody s__law_heaps) (defScope s__law_heaps) .none kV__law_heaps dc__law_heaps pm__law_heaps an__law_heaps cd__law_heaps ct__law_heaps), f__law_down := f__law_down, d__law_down := (PySem.W.fnOf "_law_down" "_law_down" (defArgs s__law_down) (defBody s__law_down) (defScope s__law_down) .none kV__law_down dc__law_down pm__law_down an__law_down cd__law_down ct__law_down), f__law_out := f__law_out, d__law_out := (PySem.W.fnOf "_law_out" "_law_out" (defArgs s__law_out) (defBody s__law_out) (defScope s__law_out) .none kV__law_out dc__law_out pm__law_out an__law_out cd__law_out ct__law_out), f__law_unlike := f__law_unlike, d__law_unlike := (PySem.W.fnOf "_law_unlike" "_law_unlike" (defArgs s__law_unlike) (defBody s__law_unlike) (defScope s__law_unlike) .none kV__law_unlike dc__law_unlike pm__law_unlike an__law_unlike cd__law_unlike ct__law_unlike), f_law := fa, d_law := (PySem.W.fnOf "law" "law" (defArgs s_law) (defBody s_law) (defScope s_law) .none kV_law dc_law pm_law an_law cd_law ct_law), C := C, CS := CS, CQ := CQ, CV := CV, po := po, c_least_child := cc_least_child, P_least_child := PP_least_child }
  have T : Tx K mg A := {
    F_is_integer := (fun_mk (st := s_is_integer) l_is_integer c_is_integer k_is_integer)
    m_is_integer := PySem.W.mg_of X G a_is_integer
    F_is_integer_from := (fun_mk (st := s_is_integer_from) l_is_integer_from c_is_integer_from k_is_integer_from)
    m_is_integer_from := PySem.W.mg_of X G a_is_integer_from
    F_is_key := (fun_mk (st := s_is_key) l_is_key c_is_key k_is_key)
    m_is_key := PySem.W.mg_of X G a_is_key
    F_check_arms := (fun_mk (st := s_check_arms) l_check_arms c_check_arms k_check_arms)
    m_check_arms := PySem.W.mg_of X G a_check_arms
    F_check_many := (fun_mk (st := s_check_many) l_check_many c_check_many k_check_many)
    m_check_many := PySem.W.mg_of X G a_check_many
    F_check_place := (fun_mk (st := s_check_place) l_check_place c_check_place k_check_place)
    m_check_place := PySem.W.mg_of X G a_check_place
    F_check_key := (fun_mk (st := s_check_key) l_check_key c_check_key k_check_key)
    m_check_key := PySem.W.mg_of X G a_check_key
    F_row_of := (fun_mk (st := s_row_of) l_row_of c_row_of k_row_of)
    m_row_of := PySem.W.mg_of X G a_row_of
    F_check_different := (fun_mk (st := s_check_different) l_check_different c_check_different k_check_different)
    m_check_different := PySem.W.mg_of X G a_check_different
    F_t___init__ := ⟨⟨_, _, _, _, _, _, _, _, _, _, rfl, l_t___init__, c_t___init__, .inl ⟨rfl, rfl⟩, .inr ⟨_, rfl, fun q hq => by rw [List.mem_singleton.mp hq]; exact ⟨_, w_t___init__, relI _ _⟩⟩⟩, k_t___init__⟩
    F_t_of := ⟨⟨_, _, _, _, _, _, _, _, _, _, rfl, l_t_of, c_t_of, .inl ⟨rfl, rfl⟩, .inr ⟨_, rfl, fun q hq => by rw [List.mem_singleton.mp hq]; exact ⟨_, w_t_of, relI _ _⟩⟩⟩, k_t_of⟩
    F_t___len__ := (fun_mk (st := s_t___len__) l_t___len__ c_t___len__ k_t___len__)
    D_t___len__ := ⟨a_t___len__, i_t___len__, n_t___len__⟩
    F_t___iter__ := (fun_mk (st := s_t___iter__) l_t___iter__ c_t___iter__ k_t___iter__)
    D_t___iter__ := ⟨a_t___iter__, i_t___iter__, n_t___iter__⟩
    F_t___getitem__ := (fun_mk (st := s_t___getitem__) l_t___getitem__ c_t___getitem__ k_t___getitem__)
    D_t___getitem__ := ⟨a_t___getitem__, i_t___getitem__, n_t___getitem__⟩
    F_t_parent := (fun_mk (st := s_t_parent) l_t_parent c_t_parent k_t_parent)
    M_t_parent := ⟨a_t_parent, i_t_parent, k_t_parent⟩
    F_t_way_to := (fun_mk (st := s_t_way_to) l_t_way_to c_t_way_to k_t_way_to)
    M_t_way_to := ⟨a_t_way_to, i_t_way_to, k_t_way_to⟩
    F_t_depth := (fun_mk (st := s_t_depth) l_t_depth c_t_depth k_t_depth)
    M_t_depth := ⟨a_t_depth, i_t_depth, k_t_depth⟩
    F_t_size := (fun_mk (st := s_t_size) l_t_size c_t_size k_t_size)
    M_t_size := ⟨a_t_size, i_t_size, k_t_size⟩
    F_t_subtree := (fun_mk (st := s_t_subtree) l_t_subtree c_t_subtree k_t_subtree)
    M_t_subtree := ⟨a_t_subtree, i_t_subtree, k_t_subtree⟩
    F_is_heap := ⟨⟨_, _, _, _, _, _, _, _, _, _, rfl, l_is_heap, c_is_heap, .inl ⟨rfl, rfl⟩, .inr ⟨_, rfl, fun q hq => by rw [List.mem_singleton.mp hq]; exact ⟨_, w_is_heap, relI _ _⟩⟩⟩, k_is_heap⟩
    m_is_heap := PySem.W.mg_of X G a_is_heap
    F_faults := ⟨⟨_, _, _, _, _, _, _, _, _, _, rfl, l_faults, c_faults, .inl ⟨rfl, rfl⟩, .inr ⟨_, rfl, fun q hq => by rw [List.mem_singleton.mp hq]; exact ⟨_, w_faults, relI _ _⟩⟩⟩, k_faults⟩
    m_faults := PySem.W.mg_of X G a_faults
    F_heap_of := (fun_mk (st := s_heap_of) l_heap_of c_heap_of k_heap_of)
    m_heap_of := PySem.W.mg_of X G a_heap_of
    F_different_heap_of := (fun_mk (st := s_different_heap_of) l_different_heap_of c_different_heap_of k_different_heap_of)
    m_different_heap_of := PySem.W.mg_of X G a_different_heap_of
    F_how_many := ⟨⟨_, _, _, _, _, _, _, _, _, _, rfl, l_how_many, c_how_many, .inl ⟨rfl, rfl⟩, .inr ⟨_, rfl, fun q hq => by rw [List.mem_singleton.mp hq]; exact ⟨_, w_how_many, relI _ _⟩⟩⟩, k_how_many⟩
    m_how_many := PySem.W.mg_of X G a_how_many
    F_z___init__ := (fun_mk (st := s_z___init__) l_z___init__ c_z___init__ k_z___init__)
    F_sift_down := ⟨⟨_, _, _, _, _, _, _, _, _, _, rfl, l_sift_down, c_sift_down, .inl ⟨rfl, rfl⟩, .inr ⟨_, rfl, fun q hq => by rw [List.mem_singleton.mp hq]; exact ⟨_, w_sift_down, relI _ _⟩⟩⟩, k_sift_down⟩
    m_sift_down := PySem.W.mg_of X G a_sift_down
    L_least_child := ⟨_, _, _, _, _, _, _, _, rfl, l_least_child, c_least_child⟩
    F_least_child := (fun_mk (st := s_least_child) l_least_child c_least_child k_least_child)
    m_least_child := PySem.W.mg_of X G a_least_child
    F_row_before := (fun_mk (st := s_row_before) l_row_before c_row_before k_row_before)
    m_row_before := PySem.W.mg_of X G a_row_before
    F_take := ⟨⟨_, _, _, _, _, _, _, _, _, _, rfl, l_take, c_take, .inl ⟨rfl, rfl⟩, .inr ⟨_, rfl, fun q hq => by rw [List.mem_singleton.mp hq]; exact ⟨_, w_take, relI _ _⟩⟩⟩, k_take⟩
    m_take := PySem.W.mg_of X G a_take
    F_filled_heap_of := (fun_mk (st := s_filled_heap_of) l_filled_heap_of c_filled_heap_of k_filled_heap_of)
    m_filled_heap_of := PySem.W.mg_of X G a_filled_heap_of
    F_check_filled := (fun_mk (st := s_check_filled) l_check_filled c_check_filled k_check_filled)
    m_check_filled := PySem.W.mg_of X G a_check_filled
    F_q___init__ := (fun_mk (st := s_q___init__) l_q___init__ c_q___init__ k_q___init__)
    F_q_shows := ⟨⟨_, _, _, _, _, _, _, _, _, _, rfl, l_q_shows, c_q_shows, .inl ⟨rfl, rfl⟩, .inr ⟨_, rfl, fun q hq => by rw [List.mem_singleton.mp hq]; exact ⟨_, w_q_shows, relI _ _⟩⟩⟩, k_q_shows⟩
    M_q_shows := ⟨a_q_shows, i_q_shows, k_q_shows⟩
    F_v___init__ := (fun_mk (st := s_v___init__) l_v___init__ c_v___init__ k_v___init__)
    F_v_shows := ⟨⟨_, _, _, _, _, _, _, _, _, _, rfl, l_v_shows, c_v_shows, .inl ⟨rfl, rfl⟩, .inr ⟨_, rfl, fun q hq => by rw [List.mem_singleton.mp hq]; exact ⟨_, w_v_shows, relI _ _⟩⟩⟩, k_v_shows⟩
    M_v_shows := ⟨a_v_shows, i_v_shows, k_v_shows⟩
    F_undo_take := ⟨⟨_, _, _, _, _, _, _, _, _, _, rfl, l_undo_take, c_undo_take, .inl ⟨rfl, rfl⟩, .inr ⟨_, rfl, fun q hq => by rw [List.mem_singleton.mp hq]; exact ⟨_, w_undo_take, relI _ _⟩⟩⟩, k_undo_take⟩
    m_undo_take := PySem.W.mg_of X G a_undo_take
    F_places_behind := ⟨⟨_, _, _, _, _, _, _, _, _, _, rfl, l_places_behind, c_places_behind, .inl ⟨rfl, rfl⟩, .inr ⟨_, rfl, fun q hq => by rw [List.mem_singleton.mp hq]; exact ⟨_, w_places_behind, relI _ _⟩⟩⟩, k_places_behind⟩
    m_places_behind := PySem.W.mg_of X G a_places_behind
    F_heap_with_room := (fun_mk (st := s_heap_with_room) l_heap_with_room c_heap_with_room k_heap_with_room)
    m_heap_with_room := PySem.W.mg_of X G a_heap_with_room
    F_heap_after := (fun_mk (st := s_heap_after) l_heap_after c_heap_after k_heap_after)
    m_heap_after := PySem.W.mg_of X G a_heap_after
    F_place_over_next := (fun_mk (st := s_place_over_next) l_place_over_next c_place_over_next k_place_over_next)
    m_place_over_next := PySem.W.mg_of X G a_place_over_next
    F__law_number := (fun_mk (st := s__law_number) l__law_number c__law_number k__law_number)
    m__law_number := PySem.W.mg_of X G a__law_number
    F__law_take := (fun_mk (st := s__law_take) l__law_take c__law_take k__law_take)
    m__law_take := PySem.W.mg_of X G a__law_take
    F__law_pick := (fun_mk (st := s__law_pick) l__law_pick c__law_pick k__law_pick)
    m__law_pick := PySem.W.mg_of X G a__law_pick
    F__law_parent := (fun_mk (st := s__law_parent) l__law_parent c__law_parent k__law_parent)
    m__law_parent := PySem.W.mg_of X G a__law_parent
    F__law_children := (fun_mk (st := s__law_children) l__law_children c__law_children k__law_children)
    m__law_children := PySem.W.mg_of X G a__law_children
    F__law_way := (fun_mk (st := s__law_way) l__law_way c__law_way k__law_way)
    m__law_way := PySem.W.mg_of X G a__law_way
    F__law_arms := (fun_mk (st := s__law_arms) l__law_arms c__law_arms k__law_arms)
    m__law_arms := PySem.W.mg_of X G a__law_arms
    F__law_order := (fun_mk (st := s__law_order) l__law_order c__law_order k__law_order)
    m__law_order := PySem.W.mg_of X G a__law_order
    F__law_is_heap := (fun_mk (st := s__law_is_heap) l__law_is_heap c__law_is_heap k__law_is_heap)
    m__law_is_heap := PySem.W.mg_of X G a__law_is_heap
    F__law_lists := (fun_mk (st := s__law_lists) l__law_lists c__law_lists k__law_lists)
    m__law_lists := PySem.W.mg_of X G a__law_lists
    F__law_heaps := (fun_mk (st := s__law_heaps) l__law_heaps c__law_heaps k__law_heaps)
    m__law_heaps := PySem.W.mg_of X G a__law_heaps
    F__law_down := (fun_mk (st := s__law_down) l__law_down c__law_down k__law_down)
    m__law_down := PySem.W.mg_of X G a__law_down
    F__law_out := (fun_mk (st := s__law_out) l__law_out c__law_out k__law_out)
    m__law_out := PySem.W.mg_of X G a__law_out
    F__law_unlike := (fun_mk (st := s__law_unlike) l__law_unlike c__law_unlike k__law_unlike)
    m__law_unlike := PySem.W.mg_of X G a__law_unlike
    F_law := (fun_mk (st := s_law) l_law c_law k_law)
    m_law := PySem.W.mg_of X G a_law
    c_GREATEST_KEY := .inr ⟨_, PySem.W.mg_of X G q_GREATEST_KEY⟩
    c_MOST_ARMS := .inr ⟨_, PySem.W.mg_of X G q_MOST_ARMS⟩
    c_MOST_PLACES := .inr ⟨_, PySem.W.mg_of X G q_MOST_PLACES⟩
    b_factorial := PySem.W.mg_of X G y_factorial
    g_any := PySem.W.mg_none_of X G z_any
    g_bool := PySem.W.mg_none_of X G z_bool
    g_enumerate := PySem.W.mg_none_of X G z_enumerate
    g_int := PySem.W.mg_none_of X G z_int
    g_isinstance := PySem.W.mg_none_of X G z_isinstance
    g_iter := PySem.W.mg_none_of X G z_iter
    g_len := PySem.W.mg_none_of X G z_len
    g_list := PySem.W.mg_none_of X G z_list
    g_min := PySem.W.mg_none_of X G z_min
    g_range := PySem.W.mg_none_of X G z_range
    g_sorted := PySem.W.mg_none_of X G z_sorted
    g_sum := PySem.W.mg_none_of X G z_sum
    g_tuple := PySem.W.mg_none_of X G z_tuple
    g_zip := PySem.W.mg_none_of X G z_zip
    cT := ⟨pg, hd, po_, sa⟩
    nMany := na_nMany
    nArms := na_nArms
    nPl := na_nPl
    mC := PySem.W.mg_of X G aC
    mkC := ⟨mk, a_t___init__, i_t___init__, kc⟩
    cr := ⟨rd, ga⟩
    cof := ⟨a_t_of, ⟨_, r_t_of⟩, n_t_of⟩
    cTS := ⟨pgS, hdS, po_S, saS⟩
    nRow := na_nRow
    nWay := na_nWay
    nLooks := na_nLooks
    mCS := PySem.W.mg_of X G aCS
    mkCS := ⟨mkS, a_z___init__, i_z___init__, kcS⟩
    cTQ := ⟨pgQ, hdQ, po_Q, saQ⟩
    qRow := na_qRow
    mCQ := PySem.W.mg_of X G aCQ
    mkCQ := ⟨mkQ, a_q___init__, i_q___init__, kcQ⟩
    kaQ := kaQ
    knQ := knQ
    ktkQ := ktkQ
    kmQ := kmQ
    kiQ_CV := kit_no2 kclQ ktyQ ensQ_Over nesQ_Over
    cTV := ⟨pgV, hdV, po_V, saV⟩
    vPlace := na_vPlace
    vKey := na_vKey
    mCV := PySem.W.mg_of X G aCV
    mkCV := ⟨mkV, a_v___init__, i_v___init__, kcV⟩
    kaV := kaV
    knV := knV
    ktkV := ktkV
    kmV := kmV
    kiV_CQ := kit_no2 kclV ktyV ensV_Before nesV_Before
  }
  refine ⟨A.d_law, [(cc_least_child, PP_least_child)], spLaw K A, fun p hp => by
    simp only [List.mem_cons, List.not_mem_nil, or_false] at hp
    rcases hp with rfl
    · exact hT_least_child, ?_, ?_, fun s v => .of_eq rfl, fun H a ns hl hb hH hS => ⟨a, ns, rfl, hS, hl, fun p hp => ?_, fun _ => rfl⟩, fun base _ _ hTB => ok_law T (hTB (cc_least_child, PP_least_child) (by simp))⟩
  · exact fun p hp => by
      simp only [List.mem_cons, List.not_mem_nil, or_false] at hp
      rcases hp with rfl
      · exact hN_least_child
  · exact fun p hp => by
      simp only [List.mem_cons, List.not_mem_nil, or_false] at hp
      rcases hp with rfl
      · exact PySem.W.codeHd_of_K X hC_least_child
  · unfold TT at hp
    simp only [List.mem_cons, List.not_mem_nil, or_false] at hp
    rcases hp with rfl
    · exact LamX.TabS.nil (hH (cc_least_child, PP_least_child) (by simp))
theorem walk {l : PySem.W.OpenLaw} {q : Program} {loose : List Str} {XP : (Str → Option Value) → Heap → Prop} {YP : World → Heap → Prop} {d : DefRec} {K : Params → PySem.W.Frag} (hn : l.most = some 63) (hdf : d.params.defaults = [])
    (hY : ∀ (w : World) (h : Heap), YP w h → (K w.params).In h)
    (F : ∀ (w : World) (mg : Str → Option Value) (fa : Addr) (h : Heap), YP w h → (K w.params).In h → h.Ns mainGlobals mg → mg d.name = some (.ref fa) → LamX.LawAtS l w (K w.params) CX0 15 63 "script" mg fa h) :
    PySem.W.WalkO q loose XP YP l.row.toRowW d [] (fun f vs => PySem.call f vs) :=
  LamX.walk_ofTs (n := 63) (k := 15) (x := "script") (CX := fun _ => CX0) hn (by decide) hdf ⟨rfl, by decide, by decide⟩ hY F fun _ _ _ _ _ z => z
end Tw

set_option Elab.async false
set_option linter.all false
set_option maxRecDepth 100000
set_option maxHeartbeats 2000000
namespace Tw
open PySem PySem.Spec PyProof.Rows L2
set_option maxHeartbeats 0
abbrev R0 : PySem.W.OpenRow := PySem.W.OpenLaw.row PySem.Challenge.rw_heaprows_k24_whole_takings
def q_is_integer : Sh.FnA := ⟨fun K => (Sh.gA K "is_integer"), "is_integer", "is_integer", defArgs s_is_integer, defBody s_is_integer, defScope s_is_integer⟩
def q_is_integer_from : Sh.FnA := ⟨fun K => (Sh.gA K "is_integer_from"), "is_integer_from", "is_integer_from", defArgs s_is_integer_from, defBody s_is_integer_from, defScope s_is_integer_from⟩
def q_is_key : Sh.FnA := ⟨fun K => (Sh.gA K "is_key"), "is_key", "is_key", defArgs s_is_key, defBody s_is_key, defScope s_is_key⟩
def q_check_arms : Sh.FnA := ⟨fun K => (Sh.gA K "check_arms"), "check_arms", "check_arms", defArgs s_check_arms, defBody s_check_arms, defScope s_check_arms⟩
def q_check_many : Sh.FnA := ⟨fun K => (Sh.gA K "check_many"), "check_many", "check_many", defArgs s_check_many, defBody s_check_many, defScope s_check_many⟩
def q_check_place : Sh.FnA := ⟨fun K => (Sh.gA K "check_place"), "check_place", "check_place", defArgs s_check_place, defBody s_check_place, defScope s_check_place⟩
def q_check_key : Sh.FnA := ⟨fun K => (Sh.gA K "check_key"), "check_key", "check_key", defArgs s_check_key, defBody s_check_key, defScope s_check_key⟩
def q_row_of : Sh.FnA := ⟨fun K => (Sh.gA K "row_of"), "row_of", "row_of", defArgs s_row_of, defBody s_row_of, defScope s_row_of⟩
def q_check_different : Sh.FnA := ⟨fun K => (Sh.gA K "check_different"), "check_different", "check_different", defArgs s_check_different, defBody s_check_different, defScope s_check_different⟩
def q_t___init__ : Sh.FnA := ⟨fun K => (Sh.mA K (Sh.gA K "Tree") "__init__"), "__init__", "Tree.__init__", defArgs s_t___init__, defBody s_t___init__, defScope s_t___init__⟩
def q_t_of : Sh.FnA := ⟨fun K => (Sh.recA K (Sh.clsA K (Sh.gA K "Tree") "of") "classmethod"), "of", "Tree.of", defArgs s_t_of, defBody s_t_of, defScope s_t_of⟩
def q_t___len__ : Sh.FnA := ⟨fun K => (Sh.mA K (Sh.gA K "Tree") "__len__"), "__len__", "Tree.__len__", defArgs s_t___len__, defBody s_t___len__, defScope s_t___len__⟩
def q_t___iter__ : Sh.FnA := ⟨fun K => (Sh.mA K (Sh.gA K "Tree") "__iter__"), "__iter__", "Tree.__iter__", defArgs s_t___iter__, defBody s_t___iter__, defScope s_t___iter__⟩
def q_t___getitem__ : Sh.FnA := ⟨fun K => (Sh.mA K (Sh.gA K "Tree") "__getitem__"), "__getitem__", "Tree.__getitem__", defArgs s_t___getitem__, defBody s_t___getitem__, defScope s_t___getitem__⟩
def q_t_parent : Sh.FnA := ⟨fun K => (Sh.mA K (Sh.gA K "Tree") "parent"), "parent", "Tree.parent", defArgs s_t_parent, defBody s_t_parent, defScope s_t_parent⟩
def q_t_way_to : Sh.FnA := ⟨fun K => (Sh.mA K (Sh.gA K "Tree") "way_to"), "way_to", "Tree.way_to", defArgs s_t_way_to, defBody s_t_way_to, defScope s_t_way_to⟩
def q_t_depth : Sh.FnA := ⟨fun K => (Sh.mA K (Sh.gA K "Tree") "depth"), "depth", "Tree.depth", defArgs s_t_depth, defBody s_t_depth, defScope s_t_depth⟩
def q_t_size : Sh.FnA := ⟨fun K => (Sh.mA K (Sh.gA K "Tree") "size"), "size", "Tree.size", defArgs s_t_size, defBody s_t_size, defScope s_t_size⟩
def q_t_subtree : Sh.FnA := ⟨fun K => (Sh.mA K (Sh.gA K "Tree") "subtree"), "subtree", "Tree.subtree", defArgs s_t_subtree, defBody s_t_subtree, defScope s_t_subtree⟩
def q_is_heap : Sh.FnA := ⟨fun K => (Sh.gA K "is_heap"), "is_heap", "is_heap", defArgs s_is_heap, defBody s_is_heap, defScope s_is_heap⟩
def q_faults : Sh.FnA := ⟨fun K => (Sh.gA K "faults"), "faults", "faults", defArgs s_faults, defBody s_faults, defScope s_faults⟩
def q_heap_of : Sh.FnA := ⟨fun K => (Sh.gA K "heap_of"), "heap_of", "heap_of", defArgs s_heap_of, defBody s_heap_of, defScope s_heap_of⟩
def q_different_heap_of : Sh.FnA := ⟨fun K => (Sh.gA K "different_heap_of"), "different_heap_of", "different_heap_of", defArgs s_different_heap_of, defBody s_different_heap_of, defScope s_different_heap_of⟩
def q_how_many : Sh.FnA := ⟨fun K => (Sh.gA K "how_many"), "how_many", "how_many", defArgs s_how_many, defBody s_how_many, defScope s_how_many⟩
def q_z___init__ : Sh.FnA := ⟨fun K => (Sh.mA K (Sh.gA K "Sift") "__init__"), "__init__", "Sift.__init__", defArgs s_z___init__, defBody s_z___init__, defScope s_z___init__⟩
def q_sift_down : Sh.FnA := ⟨fun K => (Sh.gA K "sift_down"), "sift_down", "sift_down", defArgs s_sift_down, defBody s_sift_down, defScope s_sift_down⟩
def q_least_child : Sh.FnA := ⟨fun K => (Sh.gA K "least_child"), "least_child", "least_child", defArgs s_least_child, defBody s_least_child, defScope s_least_child⟩
def q_row_before : Sh.FnA := ⟨fun K => (Sh.gA K "row_before"), "row_before", "row_before", defArgs s_row_before, defBody s_row_before, defScope s_row_before⟩
def q_take : Sh.FnA := ⟨fun K => (Sh.gA K "take"), "take", "take", defArgs s_take, defBody s_take, defScope s_take⟩
def q_filled_heap_of : Sh.FnA := ⟨fun K => (Sh.gA K "filled_heap_of"), "filled_heap_of", "filled_heap_of", defArgs s_filled_heap_of, defBody s_filled_heap_of, defScope s_filled_heap_of⟩
def q_check_filled : Sh.FnA := ⟨fun K => (Sh.gA K "check_filled"), "check_filled", "check_filled", defArgs s_check_filled, defBody s_check_filled, defScope s_check_filled⟩
def q_q___init__ : Sh.FnA := ⟨fun K => (Sh.mA K (Sh.gA K "Before") "__init__"), "__init__", "Before.__init__", defArgs s_q___init__, defBody s_q___init__, defScope s_q___init__⟩
def q_q_shows : Sh.FnA := ⟨fun K => (Sh.mA K (Sh.gA K "Before") "shows"), "shows", "Before.shows", defArgs s_q_shows, defBody s_q_shows, defScope s_q_shows⟩
def q_v___init__ : Sh.FnA := ⟨fun K => (Sh.mA K (Sh.gA K "Over") "__init__"), "__init__", "Over.__init__", defArgs s_v___init__, defBody s_v___init__, defScope s_v___init__⟩
def q_v_shows : Sh.FnA := ⟨fun K => (Sh.mA K (Sh.gA K "Over") "shows"), "shows", "Over.shows", defArgs s_v_shows, defBody s_v_shows, defScope s_v_shows⟩
def q_undo_take : Sh.FnA := ⟨fun K => (Sh.gA K "undo_take"), "undo_take", "undo_take", defArgs s_undo_take, defBody s_undo_take, defScope s_undo_take⟩
def q_places_behind : Sh.FnA := ⟨fun K => (Sh.gA K "places_behind"), "places_behind", "places_behind", defArgs s_places_behind, defBody s_places_behind, defScope s_places_behind⟩
def q_heap_with_room : Sh.FnA := ⟨fun K => (Sh.gA K "heap_with_room"), "heap_with_room", "heap_with_room", defArgs s_heap_with_room, defBody s_heap_with_room, defScope s_heap_with_room⟩
def q_heap_after : Sh.FnA := ⟨fun K => (Sh.gA K "heap_after"), "heap_after", "heap_after", defArgs s_heap_after, defBody s_heap_after, defScope s_heap_after⟩
def q_place_over_next : Sh.FnA := ⟨fun K => (Sh.gA K "place_over_next"), "place_over_next", "place_over_next", defArgs s_place_over_next, defBody s_place_over_next, defScope s_place_over_next⟩
def q__law_number : Sh.FnA := ⟨fun K => (Sh.gA K "_law_number"), "_law_number", "_law_number", defArgs s__law_number, defBody s__law_number, defScope s__law_number⟩
def q__law_take : Sh.FnA := ⟨fun K => (Sh.gA K "_law_take"), "_law_take", "_law_take", defArgs s__law_take, defBody s__law_take, defScope s__law_take⟩
def q__law_pick : Sh.FnA := ⟨fun K => (Sh.gA K "_law_pick"), "_law_pick", "_law_pick", defArgs s__law_pick, defBody s__law_pick, defScope s__law_pick⟩
def q__law_parent : Sh.FnA := ⟨fun K => (Sh.gA K "_law_parent"), "_law_parent", "_law_parent", defArgs s__law_parent, defBody s__law_parent, defScope s__law_parent⟩
def q__law_children : Sh.FnA := ⟨fun K => (Sh.gA K "_law_children"), "_law_children", "_law_children", defArgs s__law_children, defBody s__law_children, defScope s__law_children⟩
def q__law_way : Sh.FnA := ⟨fun K => (Sh.gA K "_law_way"), "_law_way", "_law_way", defArgs s__law_way, defBody s__law_way, defScope s__law_way⟩
def q__law_arms : Sh.FnA := ⟨fun K => (Sh.gA K "_law_arms"), "_law_arms", "_law_arms", defArgs s__law_arms, defBody s__law_arms, defScope s__law_arms⟩
def q__law_order : Sh.FnA := ⟨fun K => (Sh.gA K "_law_order"), "_law_order", "_law_order", defArgs s__law_order, defBody s__law_order, defScope s__law_order⟩
def q__law_is_heap : Sh.FnA := ⟨fun K => (Sh.gA K "_law_is_heap"), "_law_is_heap", "_law_is_heap", defArgs s__law_is_heap, defBody s__law_is_heap, defScope s__law_is_heap⟩
def q__law_lists : Sh.FnA := ⟨fun K => (Sh.gA K "_law_lists"), "_law_lists", "_law_lists", defArgs s__law_lists, defBody s__law_lists, defScope s__law_lists⟩
def q__law_heaps : Sh.FnA := ⟨fun K => (Sh.gA K "_law_heaps"), "_law_heaps", "_law_heaps", defArgs s__law_heaps, defBody s__law_heaps, defScope s__law_heaps⟩
def q__law_down : Sh.FnA := ⟨fun K => (Sh.gA K "_law_down"), "_law_down", "_law_down", defArgs s__law_down, defBody s__law_down, defScope s__law_down⟩
def q__law_out : Sh.FnA := ⟨fun K => (Sh.gA K "_law_out"), "_law_out", "_law_out", defArgs s__law_out, defBody s__law_out, defScope s__law_out⟩
def q__law_unlike : Sh.FnA := ⟨fun K => (Sh.gA K "_law_unlike"), "_law_unlike", "_law_unlike", defArgs s__law_unlike, defBody s__law_unlike, defScope s__law_unlike⟩
def q_law : Sh.FnA := ⟨fun K => (Sh.gA K "law"), "law", "law", defArgs s_law, defBody s_law, defScope s_law⟩
def fns0 : List Sh.FnA := [q_is_integer, q_is_integer_from, q_is_key, q_check_arms, q_check_many, q_check_place, q_check_key, q_row_of, q_check_different, q_t___init__, q_t_of, q_t___len__, q_t___iter__, q_t___getitem__, q_t_parent, q_t_way_to, q_t_depth, q_t_size, q_t_subtree, q_is_heap, q_faults, q_heap_of, q_different_heap_of, q_how_many, q_z___init__]
def fns1 : List Sh.FnA := [q_sift_down, q_least_child, q_row_before, q_take, q_filled_heap_of, q_check_filled, q_q___init__, q_q_shows, q_v___init__, q_v_shows, q_undo_take, q_places_behind, q_heap_with_room, q_heap_after, q_place_over_next, q__law_number, q__law_take, q__law_pick, q__law_parent, q__law_children, q__law_way, q__law_arms, q__law_order, q__law_is_heap, q__law_lists]
def fns2 : List Sh.FnA := [q__law_heaps, q__law_down, q__law_out, q__law_unlike, q_law]
def fns : List Sh.FnA := fns0 ++ fns1 ++ fns2
def gr0 (K : PySem.W.Frag) : Bool := decide (PySem.W.nsIn K mainGlobals "Tree" = some (some (.ref (Sh.gA K "Tree")))) && (decide (PySem.W.nsIn K mainGlobals "Sift" = some (some (.ref (Sh.gA K "Sift")))) && (decide (PySem.W.nsIn K mainGlobals "Before" = some (some (.ref (Sh.gA K "Before")))) && (decide (PySem.W.nsIn K mainGlobals "Over" = some (some (.ref (Sh.gA K "Over")))) && (decide (PySem.W.nsIn K mainGlobals "is_integer" = some (some (.ref (Sh.gA K "is_integer")))) && (decide (PySem.W.nsIn K mainGlobals "is_integer_from" = some (some (.ref (Sh.gA K "is_integer_from")))) && (decide (PySem.W.nsIn K mainGlobals "is_key" = some (some (.ref (Sh.gA K "is_key")))) && (decide (PySem.W.nsIn K mainGlobals "check_arms" = some (some (.ref (Sh.gA K "check_arms")))) && (decide (PySem.W.nsIn K mainGlobals "check_many" = some (some (.ref (Sh.gA K "check_many")))) && (decide (PySem.W.nsIn K mainGlobals "check_place" = some (some (.ref (Sh.gA K "check_place")))) && (decide (PySem.W.nsIn K mainGlobals "check_key" = some (some (.ref (Sh.gA K "check_key")))) && (decide (PySem.W.nsIn K mainGlobals "row_of" = some (some (.ref (Sh.gA K "row_of")))))))))))))))
theorem gr0_ok {K : PySem.W.Frag} (h : gr0 K = true) : (PySem.W.nsIn K mainGlobals "Tree" = some (some (.ref (Sh.gA K "Tree")))) ∧ (PySem.W.nsIn K mainGlobals "Sift" = some (some (.ref (Sh.gA K "Sift")))) ∧ (PySem.W.nsIn K mainGlobals "Before" = some (some (.ref (Sh.gA K "Before")))) ∧ (PySem.W.nsIn K mainGlobals "Over" = some (some (.ref (Sh.gA K "Over")))) ∧ (PySem.W.nsIn K mainGlobals "is_integer" = some (some (.ref (Sh.gA K "is_integer")))) ∧ (PySem.W.nsIn K mainGlobals "is_integer_from" = some (some (.ref (Sh.gA K "is_integer_from")))) ∧ (PySem.W.nsIn K mainGlobals "is_key" = some (some (.ref (Sh.gA K "is_key")))) ∧ (PySem.W.nsIn K mainGlobals "check_arms" = some (some (.ref (Sh.gA K "check_arms")))) ∧ (PySem.W.nsIn K mainGlobals "check_many" = some (some (.ref (Sh.gA K "check_many")))) ∧ (PySem.W.nsIn K mainGlobals "check_place" = some (some (.ref (Sh.gA K "check_place")))) ∧ (PySem.W.nsIn K mainGlobals "check_key" = some (some (.ref (Sh.gA K "check_key")))) ∧ (PySem.W.nsIn K mainGlobals "row_of" = some (some (.ref (Sh.gA K "row_of")))) := by
  unfold gr0 at h
  obtain ⟨h0, h⟩ := Sh.band h
  obtain ⟨h1, h⟩ := Sh.band h
  obtain ⟨h2, h⟩ := Sh.band h
  obtain ⟨h3, h⟩ := Sh.band h
  obtain ⟨h4, h⟩ := Sh.band h
  obtain ⟨h5, h⟩ := Sh.band h
  obtain ⟨h6, h⟩ := Sh.band h
  obtain ⟨h7, h⟩ := Sh.band h
  obtain ⟨h8, h⟩ := Sh.band h
  obtain ⟨h9, h⟩ := Sh.band h
  obtain ⟨h10, h⟩ := Sh.band h
  exact ⟨of_decide_eq_true h0, of_decide_eq_true h1, of_decide_eq_true h2, of_decide_eq_true h3, of_decide_eq_true h4, of_decide_eq_true h5, of_decide_eq_true h6, of_decide_eq_true h7, of_decide_eq_true h8, of_decide_eq_true h9, of_decide_eq_true h10, of_decide_eq_true h⟩
def gr1 (K : PySem.W.Frag) : Bool := decide (PySem.W.nsIn K mainGlobals "check_different" = some (some (.ref (Sh.gA K "check_different")))) && (decide (PySem.W.findIn K (.ref (Sh.gA K "Tree")) "__init__" = some (some (.ref (Sh.mA K (Sh.gA K "Tree") "__init__")))) && (decide (PySem.W.isFn K (.ref (Sh.mA K (Sh.gA K "Tree") "__init__")) = true) && (decide (PySem.W.nsIn K (Sh.kwA K (Sh.mA K (Sh.gA K "Tree") "__init__")) "arms" = some (some (.int 2 (Sh.tokI K (Sh.kwA K (Sh.mA K (Sh.gA K "Tree") "__init__")) "arms")))) && (Sh.ofB K (Sh.gA K "Tree") (Sh.clsA K (Sh.gA K "Tree") "of") "of" && (decide (PySem.W.recIn K (Sh.clsA K (Sh.gA K "Tree") "of") "classmethod" = some (.ref (Sh.recA K (Sh.clsA K (Sh.gA K "Tree") "of") "classmethod") :: (Sh.recT K (Sh.clsA K (Sh.gA K "Tree") "of") "classmethod"))) && (decide (PySem.W.fnIn K (Sh.recA K (Sh.clsA K (Sh.gA K "Tree") "of") "classmethod") = true) && (decide (PySem.W.nsIn K (Sh.kwA K (Sh.recA K (Sh.clsA K (Sh.gA K "Tree") "of") "classmethod")) "arms" = some (some (.int 2 (Sh.tokI K (Sh.kwA K (Sh.recA K (Sh.clsA K (Sh.gA K "Tree") "of") "classmethod")) "arms")))) && (decide (PySem.W.findIn K (.ref (Sh.gA K "Tree")) "__len__" = some (some (.ref (Sh.mA K (Sh.gA K "Tree") "__len__")))) && (decide (PySem.W.isFn K (.ref (Sh.mA K (Sh.gA K "Tree") "__len__")) = true) && (decide (PySem.W.fnIn K (Sh.mA K (Sh.gA K "Tree") "__len__") = true) && (decide (PySem.W.findIn K (.ref (Sh.gA K "Tree")) "__iter__" = some (some (.ref (Sh.mA K (Sh.gA K "Tree") "__iter__")))))))))))))))
theorem gr1_ok {K : PySem.W.Frag} (h : gr1 K = true) : (PySem.W.nsIn K mainGlobals "check_different" = some (some (.ref (Sh.gA K "check_different")))) ∧ (PySem.W.findIn K (.ref (Sh.gA K "Tree")) "__init__" = some (some (.ref (Sh.mA K (Sh.gA K "Tree") "__init__")))) ∧ (PySem.W.isFn K (.ref (Sh.mA K (Sh.gA K "Tree") "__init__")) = true) ∧ (PySem.W.nsIn K (Sh.kwA K (Sh.mA K (Sh.gA K "Tree") "__init__")) "arms" = some (some (.int 2 (Sh.tokI K (Sh.kwA K (Sh.mA K (Sh.gA K "Tree") "__init__")) "arms")))) ∧ (PySem.W.findCls K (.ref (Sh.gA K "Tree")) (.type "type") "of" = some (.get (.builtin "classmethod.__get__") (.ref (Sh.clsA K (Sh.gA K "Tree") "of")) .none (.ref (Sh.gA K "Tree")))) ∧ (PySem.W.recIn K (Sh.clsA K (Sh.gA K "Tree") "of") "classmethod" = some (.ref (Sh.recA K (Sh.clsA K (Sh.gA K "Tree") "of") "classmethod") :: (Sh.recT K (Sh.clsA K (Sh.gA K "Tree") "of") "classmethod"))) ∧ (PySem.W.fnIn K (Sh.recA K (Sh.clsA K (Sh.gA K "Tree") "of") "classmethod") = true) ∧ (PySem.W.nsIn K (Sh.kwA K (Sh.recA K (Sh.clsA K (Sh.gA K "Tree") "of") "classmethod")) "arms" = some (some (.int 2 (Sh.tokI K (Sh.kwA K (Sh.recA K (Sh.clsA K (Sh.gA K "Tree") "of") "classmethod")) "arms")))) ∧ (PySem.W.findIn K (.ref (Sh.gA K "Tree")) "__len__" = some (some (.ref (Sh.mA K (Sh.gA K "Tree") "__len__")))) ∧ (PySem.W.isFn K (.ref (Sh.mA K (Sh.gA K "Tree") "__len__")) = true) ∧ (PySem.W.fnIn K (Sh.mA K (Sh.gA K "Tree") "__len__") = true) ∧ (PySem.W.findIn K (.ref (Sh.gA K "Tree")) "__iter__" = some (some (.ref (Sh.mA K (Sh.gA K "Tree") "__iter__")))) := by
  unfold gr1 at h
  obtain ⟨h0, h⟩ := Sh.band h
  obtain ⟨h1, h⟩ := Sh.band h
  obtain ⟨h2, h⟩ := Sh.band h
  obtain ⟨h3, h⟩ := Sh.band h
  obtain ⟨h4, h⟩ := Sh.band h
  obtain ⟨h5, h⟩ := Sh.band h
  obtain ⟨h6, h⟩ := Sh.band h
  obtain ⟨h7, h⟩ := Sh.band h
  obtain ⟨h8, h⟩ := Sh.band h
  obtain ⟨h9, h⟩ := Sh.band h
  obtain ⟨h10, h⟩ := Sh.band h
  exact ⟨of_decide_eq_true h0, of_decide_eq_true h1, of_decide_eq_true h2, of_decide_eq_true h3, Sh.ofB_ok h4, of_decide_eq_true h5, of_decide_eq_true h6, of_decide_eq_true h7, of_decide_eq_true h8, of_decide_eq_true h9, of_decide_eq_true h10, of_decide_eq_true h⟩
def gr2 (K : PySem.W.Frag) : Bool := decide (PySem.W.isFn K (.ref (Sh.mA K (Sh.gA K "Tree") "__iter__")) = true) && (decide (PySem.W.fnIn K (Sh.mA K (Sh.gA K "Tree") "__iter__") = true) && (decide (PySem.W.findIn K (.ref (Sh.gA K "Tree")) "__getitem__" = some (some (.ref (Sh.mA K (Sh.gA K "Tree") "__getitem__")))) && (decide (PySem.W.isFn K (.ref (Sh.mA K (Sh.gA K "Tree") "__getitem__")) = true) && (decide (PySem.W.fnIn K (Sh.mA K (Sh.gA K "Tree") "__getitem__") = true) && (decide (PySem.W.findIn K (.ref (Sh.gA K "Tree")) "parent" = some (some (.ref (Sh.mA K (Sh.gA K "Tree") "parent")))) && (decide (PySem.W.isFn K (.ref (Sh.mA K (Sh.gA K "Tree") "parent")) = true) && (decide (PySem.W.findIn K (.ref (Sh.gA K "Tree")) "way_to" = some (some (.ref (Sh.mA K (Sh.gA K "Tree") "way_to")))) && (decide (PySem.W.isFn K (.ref (Sh.mA K (Sh.gA K "Tree") "way_to")) = true) && (decide (PySem.W.findIn K (.ref (Sh.gA K "Tree")) "depth" = some (some (.ref (Sh.mA K (Sh.gA K "Tree") "depth")))) && (decide (PySem.W.isFn K (.ref (Sh.mA K (Sh.gA K "Tree") "depth")) = true) && (decide (PySem.W.findIn K (.ref (Sh.gA K "Tree")) "size" = some (some (.ref (Sh.mA K (Sh.gA K "Tree") "size")))))))))))))))
theorem gr2_ok {K : PySem.W.Frag} (h : gr2 K = true) : (PySem.W.isFn K (.ref (Sh.mA K (Sh.gA K "Tree") "__iter__")) = true) ∧ (PySem.W.fnIn K (Sh.mA K (Sh.gA K "Tree") "__iter__") = true) ∧ (PySem.W.findIn K (.ref (Sh.gA K "Tree")) "__getitem__" = some (some (.ref (Sh.mA K (Sh.gA K "Tree") "__getitem__")))) ∧ (PySem.W.isFn K (.ref (Sh.mA K (Sh.gA K "Tree") "__getitem__")) = true) ∧ (PySem.W.fnIn K (Sh.mA K (Sh.gA K "Tree") "__getitem__") = true) ∧ (PySem.W.findIn K (.ref (Sh.gA K "Tree")) "parent" = some (some (.ref (Sh.mA K (Sh.gA K "Tree") "parent")))) ∧ (PySem.W.isFn K (.ref (Sh.mA K (Sh.gA K "Tree") "parent")) = true) ∧ (PySem.W.findIn K (.ref (Sh.gA K "Tree")) "way_to" = some (some (.ref (Sh.mA K (Sh.gA K "Tree") "way_to")))) ∧ (PySem.W.isFn K (.ref (Sh.mA K (Sh.gA K "Tree") "way_to")) = true) ∧ (PySem.W.findIn K (.ref (Sh.gA K "Tree")) "depth" = some (some (.ref (Sh.mA K (Sh.gA K "Tree") "depth")))) ∧ (PySem.W.isFn K (.ref (Sh.mA K (Sh.gA K "Tree") "depth")) = true) ∧ (PySem.W.findIn K (.ref (Sh.gA K "Tree")) "size" = some (some (.ref (Sh.mA K (Sh.gA K "Tree") "size")))) := by
  unfold gr2 at h
  obtain ⟨h0, h⟩ := Sh.band h
  obtain ⟨h1, h⟩ := Sh.band h
  obtain ⟨h2, h⟩ := Sh.band h
  obtain ⟨h3, h⟩ := Sh.band h
  obtain ⟨h4, h⟩ := Sh.band h
  obtain ⟨h5, h⟩ := Sh.band h
  obtain ⟨h6, h⟩ := Sh.band h
  obtain ⟨h7, h⟩ := Sh.band h
  obtain ⟨h8, h⟩ := Sh.band h
  obtain ⟨h9, h⟩ := Sh.band h
  obtain ⟨h10, h⟩ := Sh.band h
  exact ⟨of_decide_eq_true h0, of_decide_eq_true h1, of_decide_eq_true h2, of_decide_eq_true h3, of_decide_eq_true h4, of_decide_eq_true h5, of_decide_eq_true h6, of_decide_eq_true h7, of_decide_eq_true h8, of_decide_eq_true h9, of_decide_eq_true h10, of_decide_eq_true h⟩
def gr3 (K : PySem.W.Frag) : Bool := decide (PySem.W.isFn K (.ref (Sh.mA K (Sh.gA K "Tree") "size")) = true) && (decide (PySem.W.findIn K (.ref (Sh.gA K "Tree")) "subtree" = some (some (.ref (Sh.mA K (Sh.gA K "Tree") "subtree")))) && (decide (PySem.W.isFn K (.ref (Sh.mA K (Sh.gA K "Tree") "subtree")) = true) && (decide (PySem.W.nsIn K mainGlobals "is_heap" = some (some (.ref (Sh.gA K "is_heap")))) && (decide (PySem.W.nsIn K (Sh.kwA K (Sh.gA K "is_heap")) "arms" = some (some (.int 2 (Sh.tokI K (Sh.kwA K (Sh.gA K "is_heap")) "arms")))) && (decide (PySem.W.nsIn K mainGlobals "faults" = some (some (.ref (Sh.gA K "faults")))) && (decide (PySem.W.nsIn K (Sh.kwA K (Sh.gA K "faults")) "arms" = some (some (.int 2 (Sh.tokI K (Sh.kwA K (Sh.gA K "faults")) "arms")))) && (decide (PySem.W.nsIn K mainGlobals "heap_of" = some (some (.ref (Sh.gA K "heap_of")))) && (decide (PySem.W.nsIn K mainGlobals "different_heap_of" = some (some (.ref (Sh.gA K "different_heap_of")))) && (decide (PySem.W.nsIn K mainGlobals "how_many" = some (some (.ref (Sh.gA K "how_many")))) && (decide (PySem.W.nsIn K (Sh.kwA K (Sh.gA K "how_many")) "arms" = some (some (.int 2 (Sh.tokI K (Sh.kwA K (Sh.gA K "how_many")) "arms")))) && (decide (PySem.W.findIn K (.ref (Sh.gA K "Sift")) "__init__" = some (some (.ref (Sh.mA K (Sh.gA K "Sift") "__init__")))))))))))))))
theorem gr3_ok {K : PySem.W.Frag} (h : gr3 K = true) : (PySem.W.isFn K (.ref (Sh.mA K (Sh.gA K "Tree") "size")) = true) ∧ (PySem.W.findIn K (.ref (Sh.gA K "Tree")) "subtree" = some (some (.ref (Sh.mA K (Sh.gA K "Tree") "subtree")))) ∧ (PySem.W.isFn K (.ref (Sh.mA K (Sh.gA K "Tree") "subtree")) = true) ∧ (PySem.W.nsIn K mainGlobals "is_heap" = some (some (.ref (Sh.gA K "is_heap")))) ∧ (PySem.W.nsIn K (Sh.kwA K (Sh.gA K "is_heap")) "arms" = some (some (.int 2 (Sh.tokI K (Sh.kwA K (Sh.gA K "is_heap")) "arms")))) ∧ (PySem.W.nsIn K mainGlobals "faults" = some (some (.ref (Sh.gA K "faults")))) ∧ (PySem.W.nsIn K (Sh.kwA K (Sh.gA K "faults")) "arms" = some (some (.int 2 (Sh.tokI K (Sh.kwA K (Sh.gA K "faults")) "arms")))) ∧ (PySem.W.nsIn K mainGlobals "heap_of" = some (some (.ref (Sh.gA K "heap_of")))) ∧ (PySem.W.nsIn K mainGlobals "different_heap_of" = some (some (.ref (Sh.gA K "different_heap_of")))) ∧ (PySem.W.nsIn K mainGlobals "how_many" = some (some (.ref (Sh.gA K "how_many")))) ∧ (PySem.W.nsIn K (Sh.kwA K (Sh.gA K "how_many")) "arms" = some (some (.int 2 (Sh.tokI K (Sh.kwA K (Sh.gA K "how_many")) "arms")))) ∧ (PySem.W.findIn K (.ref (Sh.gA K "Sift")) "__init__" = some (some (.ref (Sh.mA K (Sh.gA K "Sift") "__init__")))) := by
  unfold gr3 at h
  obtain ⟨h0, h⟩ := Sh.band h
  obtain ⟨h1, h⟩ := Sh.band h
  obtain ⟨h2, h⟩ := Sh.band h
  obtain ⟨h3, h⟩ := Sh.band h
  obtain ⟨h4, h⟩ := Sh.band h
  obtain ⟨h5, h⟩ := Sh.band h
  obtain ⟨h6, h⟩ := Sh.band h
  obtain ⟨h7, h⟩ := Sh.band h
  obtain ⟨h8, h⟩ := Sh.band h
  obtain ⟨h9, h⟩ := Sh.band h
  obtain ⟨h10, h⟩ := Sh.band h
  exact ⟨of_decide_eq_true h0, of_decide_eq_true h1, of_decide_eq_true h2, of_decide_eq_true h3, of_decide_eq_true h4, of_decide_eq_true h5, of_decide_eq_true h6, of_decide_eq_true h7, of_decide_eq_true h8, of_decide_eq_true h9, of_decide_eq_true h10, of_decide_eq_true h⟩
def gr4 (K : PySem.W.Frag) : Bool := decide (PySem.W.isFn K (.ref (Sh.mA K (Sh.gA K "Sift") "__init__")) = true) && (decide (PySem.W.nsIn K mainGlobals "sift_down" = some (some (.ref (Sh.gA K "sift_down")))) && (decide (PySem.W.nsIn K (Sh.kwA K (Sh.gA K "sift_down")) "arms" = some (some (.int 2 (Sh.tokI K (Sh.kwA K (Sh.gA K "sift_down")) "arms")))) && (decide (PySem.W.nsIn K mainGlobals "least_child" = some (some (.ref (Sh.gA K "least_child")))) && (decide (PySem.W.nsIn K mainGlobals "row_before" = some (some (.ref (Sh.gA K "row_before")))) && (decide (PySem.W.nsIn K mainGlobals "take" = some (some (.ref (Sh.gA K "take")))) && (decide (PySem.W.nsIn K (Sh.kwA K (Sh.gA K "take")) "arms" = some (some (.int 2 (Sh.tokI K (Sh.kwA K (Sh.gA K "take")) "arms")))) && (decide (PySem.W.nsIn K mainGlobals "filled_heap_of" = some (some (.ref (Sh.gA K "filled_heap_of")))) && (decide (PySem.W.nsIn K mainGlobals "check_filled" = some (some (.ref (Sh.gA K "check_filled")))) && (decide (PySem.W.findIn K (.ref (Sh.gA K "Before")) "__init__" = some (some (.ref (Sh.mA K (Sh.gA K "Before") "__init__")))) && (decide (PySem.W.isFn K (.ref (Sh.mA K (Sh.gA K "Before") "__init__")) = true) && (decide (PySem.W.findIn K (.ref (Sh.gA K "Before")) "shows" = some (some (.ref (Sh.mA K (Sh.gA K "Before") "shows")))))))))))))))
theorem gr4_ok {K : PySem.W.Frag} (h : gr4 K = true) : (PySem.W.isFn K (.ref (Sh.mA K (Sh.gA K "Sift") "__init__")) = true) ∧ (PySem.W.nsIn K mainGlobals "sift_down" = some (some (.ref (Sh.gA K "sift_down")))) ∧ (PySem.W.nsIn K (Sh.kwA K (Sh.gA K "sift_down")) "arms" = some (some (.int 2 (Sh.tokI K (Sh.kwA K (Sh.gA K "sift_down")) "arms")))) ∧ (PySem.W.nsIn K mainGlobals "least_child" = some (some (.ref (Sh.gA K "least_child")))) ∧ (PySem.W.nsIn K mainGlobals "row_before" = some (some (.ref (Sh.gA K "row_before")))) ∧ (PySem.W.nsIn K mainGlobals "take" = some (some (.ref (Sh.gA K "take")))) ∧ (PySem.W.nsIn K (Sh.kwA K (Sh.gA K "take")) "arms" = some (some (.int 2 (Sh.tokI K (Sh.kwA K (Sh.gA K "take")) "arms")))) ∧ (PySem.W.nsIn K mainGlobals "filled_heap_of" = some (some (.ref (Sh.gA K "filled_heap_of")))) ∧ (PySem.W.nsIn K mainGlobals "check_filled" = some (some (.ref (Sh.gA K "check_filled")))) ∧ (PySem.W.findIn K (.ref (Sh.gA K "Before")) "__init__" = some (some (.ref (Sh.mA K (Sh.gA K "Before") "__init__")))) ∧ (PySem.W.isFn K (.ref (Sh.mA K (Sh.gA K "Before") "__init__")) = true) ∧ (PySem.W.findIn K (.ref (Sh.gA K "Before")) "shows" = some (some (.ref (Sh.mA K (Sh.gA K "Before") "shows")))) := by
  unfold gr4 at h
  obtain ⟨h0, h⟩ := Sh.band h
  obtain ⟨h1, h⟩ := Sh.band h
  obtain ⟨h2, h⟩ := Sh.band h
  obtain ⟨h3, h⟩ := Sh.band h
  obtain ⟨h4, h⟩ := Sh.band h
  obtain ⟨h5, h⟩ := Sh.band h
  obtain ⟨h6, h⟩ := Sh.band h
  obtain ⟨h7, h⟩ := Sh.band h
  obtain ⟨h8, h⟩ := Sh.band h
  obtain ⟨h9, h⟩ := Sh.band h
  obtain ⟨h10, h⟩ := Sh.band h
  exact ⟨of_decide_eq_true h0, of_decide_eq_true h1, of_decide_eq_true h2, of_decide_eq_true h3, of_decide_eq_true h4, of_decide_eq_true h5, of_decide_eq_true h6, of_decide_eq_true h7, of_decide_eq_true h8, of_decide_eq_true h9, of_decide_eq_true h10, of_decide_eq_true h⟩
def gr5 (K : PySem.W.Frag) : Bool := decide (PySem.W.isFn K (.ref (Sh.mA K (Sh.gA K "Before") "shows")) = true) && (decide (PySem.W.nsIn K (Sh.kwA K (Sh.mA K (Sh.gA K "Before") "shows")) "arms" = some (some (.int 2 (Sh.tokI K (Sh.kwA K (Sh.mA K (Sh.gA K "Before") "shows")) "arms")))) && (decide (PySem.W.findIn K (.ref (Sh.gA K "Over")) "__init__" = some (some (.ref (Sh.mA K (Sh.gA K "Over") "__init__")))) && (decide (PySem.W.isFn K (.ref (Sh.mA K (Sh.gA K "Over") "__init__")) = true) && (decide (PySem.W.findIn K (.ref (Sh.gA K "Over")) "shows" = some (some (.ref (Sh.mA K (Sh.gA K "Over") "shows")))) && (decide (PySem.W.isFn K (.ref (Sh.mA K (Sh.gA K "Over") "shows")) = true) && (decide (PySem.W.nsIn K (Sh.kwA K (Sh.mA K (Sh.gA K "Over") "shows")) "arms" = some (some (.int 2 (Sh.tokI K (Sh.kwA K (Sh.mA K (Sh.gA K "Over") "shows")) "arms")))) && (decide (PySem.W.nsIn K mainGlobals "undo_take" = some (some (.ref (Sh.gA K "undo_take")))) && (decide (PySem.W.nsIn K (Sh.kwA K (Sh.gA K "undo_take")) "arms" = some (some (.int 2 (Sh.tokI K (Sh.kwA K (Sh.gA K "undo_take")) "arms")))) && (decide (PySem.W.nsIn K mainGlobals "places_behind" = some (some (.ref (Sh.gA K "places_behind")))) && (decide (PySem.W.nsIn K (Sh.kwA K (Sh.gA K "places_behind")) "arms" = some (some (.int 2 (Sh.tokI K (Sh.kwA K (Sh.gA K "places_behind")) "arms")))) && (decide (PySem.W.nsIn K mainGlobals "heap_with_room" = some (some (.ref (Sh.gA K "heap_with_room")))))))))))))))
theorem gr5_ok {K : PySem.W.Frag} (h : gr5 K = true) : (PySem.W.isFn K (.ref (Sh.mA K (Sh.gA K "Before") "shows")) = true) ∧ (PySem.W.nsIn K (Sh.kwA K (Sh.mA K (Sh.gA K "Before") "shows")) "arms" = some (some (.int 2 (Sh.tokI K (Sh.kwA K (Sh.mA K (Sh.gA K "Before") "shows")) "arms")))) ∧ (PySem.W.findIn K (.ref (Sh.gA K "Over")) "__init__" = some (some (.ref (Sh.mA K (Sh.gA K "Over") "__init__")))) ∧ (PySem.W.isFn K (.ref (Sh.mA K (Sh.gA K "Over") "__init__")) = true) ∧ (PySem.W.findIn K (.ref (Sh.gA K "Over")) "shows" = some (some (.ref (Sh.mA K (Sh.gA K "Over") "shows")))) ∧ (PySem.W.isFn K (.ref (Sh.mA K (Sh.gA K "Over") "shows")) = true) ∧ (PySem.W.nsIn K (Sh.kwA K (Sh.mA K (Sh.gA K "Over") "shows")) "arms" = some (some (.int 2 (Sh.tokI K (Sh.kwA K (Sh.mA K (Sh.gA K "Over") "shows")) "arms")))) ∧ (PySem.W.nsIn K mainGlobals "undo_take" = some (some (.ref (Sh.gA K "undo_take")))) ∧ (PySem.W.nsIn K (Sh.kwA K (Sh.gA K "undo_take")) "arms" = some (some (.int 2 (Sh.tokI K (Sh.kwA K (Sh.gA K "undo_take")) "arms")))) ∧ (PySem.W.nsIn K mainGlobals "places_behind" = some (some (.ref (Sh.gA K "places_behind")))) ∧ (PySem.W.nsIn K (Sh.kwA K (Sh.gA K "places_behind")) "arms" = some (some (.int 2 (Sh.tokI K (Sh.kwA K (Sh.gA K "places_behind")) "arms")))) ∧ (PySem.W.nsIn K mainGlobals "heap_with_room" = some (some (.ref (Sh.gA K "heap_with_room")))) := by
  unfold gr5 at h
  obtain ⟨h0, h⟩ := Sh.band h
  obtain ⟨h1, h⟩ := Sh.band h
  obtain ⟨h2, h⟩ := Sh.band h
  obtain ⟨h3, h⟩ := Sh.band h
  obtain ⟨h4, h⟩ := Sh.band h
  obtain ⟨h5, h⟩ := Sh.band h
  obtain ⟨h6, h⟩ := Sh.band h
  obtain ⟨h7, h⟩ := Sh.band h
  obtain ⟨h8, h⟩ := Sh.band h
  obtain ⟨h9, h⟩ := Sh.band h
  obtain ⟨h10, h⟩ := Sh.band h
  exact ⟨of_decide_eq_true h0, of_decide_eq_true h1, of_decide_eq_true h2, of_decide_eq_true h3, of_decide_eq_true h4, of_decide_eq_true h5, of_decide_eq_true h6, of_decide_eq_true h7, of_decide_eq_true h8, of_decide_eq_true h9, of_decide_eq_true h10, of_decide_eq_true h⟩
def gr6 (K : PySem.W.Frag) : Bool := decide (PySem.W.nsIn K mainGlobals "heap_after" = some (some (.ref (Sh.gA K "heap_after")))) && (decide (PySem.W.nsIn K mainGlobals "place_over_next" = some (some (.ref (Sh.gA K "place_over_next")))) && (decide (PySem.W.nsIn K mainGlobals "_law_number" = some (some (.ref (Sh.gA K "_law_number")))) && (decide (PySem.W.nsIn K mainGlobals "_law_take" = some (some (.ref (Sh.gA K "_law_take")))) && (decide (PySem.W.nsIn K mainGlobals "_law_pick" = some (some (.ref (Sh.gA K "_law_pick")))) && (decide (PySem.W.nsIn K mainGlobals "_law_parent" = some (some (.ref (Sh.gA K "_law_parent")))) && (decide (PySem.W.nsIn K mainGlobals "_law_children" = some (some (.ref (Sh.gA K "_law_children")))) && (decide (PySem.W.nsIn K mainGlobals "_law_way" = some (some (.ref (Sh.gA K "_law_way")))) && (decide (PySem.W.nsIn K mainGlobals "_law_arms" = some (some (.ref (Sh.gA K "_law_arms")))) && (decide (PySem.W.nsIn K mainGlobals "_law_order" = some (some (.ref (Sh.gA K "_law_order")))) && (decide (PySem.W.nsIn K mainGlobals "_law_is_heap" = some (some (.ref (Sh.gA K "_law_is_heap")))) && (decide (PySem.W.nsIn K mainGlobals "_law_lists" = some (some (.ref (Sh.gA K "_law_lists")))))))))))))))
theorem gr6_ok {K : PySem.W.Frag} (h : gr6 K = true) : (PySem.W.nsIn K mainGlobals "heap_after" = some (some (.ref (Sh.gA K "heap_after")))) ∧ (PySem.W.nsIn K mainGlobals "place_over_next" = some (some (.ref (Sh.gA K "place_over_next")))) ∧ (PySem.W.nsIn K mainGlobals "_law_number" = some (some (.ref (Sh.gA K "_law_number")))) ∧ (PySem.W.nsIn K mainGlobals "_law_take" = some (some (.ref (Sh.gA K "_law_take")))) ∧ (PySem.W.nsIn K mainGlobals "_law_pick" = some (some (.ref (Sh.gA K "_law_pick")))) ∧ (PySem.W.nsIn K mainGlobals "_law_parent" = some (some (.ref (Sh.gA K "_law_parent")))) ∧ (PySem.W.nsIn K mainGlobals "_law_children" = some (some (.ref (Sh.gA K "_law_children")))) ∧ (PySem.W.nsIn K mainGlobals "_law_way" = some (some (.ref (Sh.gA K "_law_way")))) ∧ (PySem.W.nsIn K mainGlobals "_law_arms" = some (some (.ref (Sh.gA K "_law_arms")))) ∧ (PySem.W.nsIn K mainGlobals "_law_order" = some (some (.ref (Sh.gA K "_law_order")))) ∧ (PySem.W.nsIn K mainGlobals "_law_is_heap" = some (some (.ref (Sh.gA K "_law_is_heap")))) ∧ (PySem.W.nsIn K mainGlobals "_law_lists" = some (some (.ref (Sh.gA K "_law_lists")))) := by
  unfold gr6 at h
  obtain ⟨h0, h⟩ := Sh.band h
  obtain ⟨h1, h⟩ := Sh.band h
  obtain ⟨h2, h⟩ := Sh.band h
  obtain ⟨h3, h⟩ := Sh.band h
  obtain ⟨h4, h⟩ := Sh.band h
  obtain ⟨h5, h⟩ := Sh.band h
  obtain ⟨h6, h⟩ := Sh.band h
  obtain ⟨h7, h⟩ := Sh.band h
  obtain ⟨h8, h⟩ := Sh.band h
  obtain ⟨h9, h⟩ := Sh.band h
  obtain ⟨h10, h⟩ := Sh.band h
  exact ⟨of_decide_eq_true h0, of_decide_eq_true h1, of_decide_eq_true h2, of_decide_eq_true h3, of_decide_eq_true h4, of_decide_eq_true h5, of_decide_eq_true h6, of_decide_eq_true h7, of_decide_eq_true h8, of_decide_eq_true h9, of_decide_eq_true h10, of_decide_eq_true h⟩
def gr7 (K : PySem.W.Frag) : Bool := decide (PySem.W.nsIn K mainGlobals "_law_heaps" = some (some (.ref (Sh.gA K "_law_heaps")))) && (decide (PySem.W.nsIn K mainGlobals "_law_down" = some (some (.ref (Sh.gA K "_law_down")))) && (decide (PySem.W.nsIn K mainGlobals "_law_out" = some (some (.ref (Sh.gA K "_law_out")))) && (decide (PySem.W.nsIn K mainGlobals "_law_unlike" = some (some (.ref (Sh.gA K "_law_unlike")))) && (decide (PySem.W.nsIn K mainGlobals "law" = some (some (.ref (Sh.gA K "law")))) && (decide (PySem.W.nsIn K mainGlobals "GREATEST_KEY" = some (some (.int 1000000000 (Sh.tokI K mainGlobals "GREATEST_KEY")))) && (decide (PySem.W.nsIn K mainGlobals "MOST_ARMS" = some (some (.int 4 (Sh.tokI K mainGlobals "MOST_ARMS")))) && (decide (PySem.W.nsIn K mainGlobals "MOST_PLACES" = some (some (.int 12 (Sh.tokI K mainGlobals "MOST_PLACES")))) && (decide (PySem.W.nsIn K mainGlobals "factorial" = some (some (.builtin "math.factorial"))) && (decide (PySem.W.nsIn K mainGlobals "any" = some none) && (decide (PySem.W.nsIn K mainGlobals "bool" = some none) && (decide (PySem.W.nsIn K mainGlobals "enumerate" = some none))))))))))))
theorem gr7_ok {K : PySem.W.Frag} (h : gr7 K = true) : (PySem.W.nsIn K mainGlobals "_law_heaps" = some (some (.ref (Sh.gA K "_law_heaps")))) ∧ (PySem.W.nsIn K mainGlobals "_law_down" = some (some (.ref (Sh.gA K "_law_down")))) ∧ (PySem.W.nsIn K mainGlobals "_law_out" = some (some (.ref (Sh.gA K "_law_out")))) ∧ (PySem.W.nsIn K mainGlobals "_law_unlike" = some (some (.ref (Sh.gA K "_law_unlike")))) ∧ (PySem.W.nsIn K mainGlobals "law" = some (some (.ref (Sh.gA K "law")))) ∧ (PySem.W.nsIn K mainGlobals "GREATEST_KEY" = some (some (.int 1000000000 (Sh.tokI K mainGlobals "GREATEST_KEY")))) ∧ (PySem.W.nsIn K mainGlobals "MOST_ARMS" = some (some (.int 4 (Sh.tokI K mainGlobals "MOST_ARMS")))) ∧ (PySem.W.nsIn K mainGlobals "MOST_PLACES" = some (some (.int 12 (Sh.tokI K mainGlobals "MOST_PLACES")))) ∧ (PySem.W.nsIn K mainGlobals "factorial" = some (some (.builtin "math.factorial"))) ∧ (PySem.W.nsIn K mainGlobals "any" = some none) ∧ (PySem.W.nsIn K mainGlobals "bool" = some none) ∧ (PySem.W.nsIn K mainGlobals "enumerate" = some none) := by
  unfold gr7 at h
  obtain ⟨h0, h⟩ := Sh.band h
  obtain ⟨h1, h⟩ := Sh.band h
  obtain ⟨h2, h⟩ := Sh.band h
  obtain ⟨h3, h⟩ := Sh.band h
  obtain ⟨h4, h⟩ := Sh.band h
  obtain ⟨h5, h⟩ := Sh.band h
  obtain ⟨h6, h⟩ := Sh.band h
  obtain ⟨h7, h⟩ := Sh.band h
  obtain ⟨h8, h⟩ := Sh.band h
  obtain ⟨h9, h⟩ := Sh.band h
  obtain ⟨h10, h⟩ := Sh.band h
  exact ⟨of_decide_eq_true h0, of_decide_eq_true h1, of_decide_eq_true h2, of_decide_eq_true h3, of_decide_eq_true h4, of_decide_eq_true h5, of_decide_eq_true h6, of_decide_eq_true h7, of_decide_eq_true h8, of_decide_eq_true h9, of_decide_eq_true h10, of_decide_eq_true h⟩
def gr8 (K : PySem.W.Frag) : Bool := decide (PySem.W.nsIn K mainGlobals "int" = some none) && (decide (PySem.W.nsIn K mainGlobals "isinstance" = some none) && (decide (PySem.W.nsIn K mainGlobals "iter" = some none) && (decide (PySem.W.nsIn K mainGlobals "len" = some none) && (decide (PySem.W.nsIn K mainGlobals "list" = some none) && (decide (PySem.W.nsIn K mainGlobals "min" = some none) && (decide (PySem.W.nsIn K mainGlobals "range" = some none) && (decide (PySem.W.nsIn K mainGlobals "sorted" = some none) && (decide (PySem.W.nsIn K mainGlobals "sum" = some none) && (decide (PySem.W.nsIn K mainGlobals "tuple" = some none) && (decide (PySem.W.nsIn K mainGlobals "zip" = some none) && (decide (PySem.W.plainGet K (Sh.gA K "Tree") Str.empty = true))))))))))))
theorem gr8_ok {K : PySem.W.Frag} (h : gr8 K = true) : (PySem.W.nsIn K mainGlobals "int" = some none) ∧ (PySem.W.nsIn K mainGlobals "isinstance" = some none) ∧ (PySem.W.nsIn K mainGlobals "iter" = some none) ∧ (PySem.W.nsIn K mainGlobals "len" = some none) ∧ (PySem.W.nsIn K mainGlobals "list" = some none) ∧ (PySem.W.nsIn K mainGlobals "min" = some none) ∧ (PySem.W.nsIn K mainGlobals "range" = some none) ∧ (PySem.W.nsIn K mainGlobals "sorted" = some none) ∧ (PySem.W.nsIn K mainGlobals "sum" = some none) ∧ (PySem.W.nsIn K mainGlobals "tuple" = some none) ∧ (PySem.W.nsIn K mainGlobals "zip" = some none) ∧ (PySem.W.plainGet K (Sh.gA K "Tree") Str.empty = true) := by
  unfold gr8 at h
  obtain ⟨h0, h⟩ := Sh.band h
  obtain ⟨h1, h⟩ := Sh.band h
  obtain ⟨h2, h⟩ := Sh.band h
  obtain ⟨h3, h⟩ := Sh.band h
  obtain ⟨h4, h⟩ := Sh.band h
  obtain ⟨h5, h⟩ := Sh.band h
  obtain ⟨h6, h⟩ := Sh.band h
  obtain ⟨h7, h⟩ := Sh.band h
  obtain ⟨h8, h⟩ := Sh.band h
  obtain ⟨h9, h⟩ := Sh.band h
  obtain ⟨h10, h⟩ := Sh.band h
  exact ⟨of_decide_eq_true h0, of_decide_eq_true h1, of_decide_eq_true h2, of_decide_eq_true h3, of_decide_eq_true h4, of_decide_eq_true h5, of_decide_eq_true h6, of_decide_eq_true h7, of_decide_eq_true h8, of_decide_eq_true h9, of_decide_eq_true h10, of_decide_eq_true h⟩
def gr9 (K : PySem.W.Frag) : Bool := decide (PySem.W.hasDictIn K (Sh.gA K "Tree") = true) && (decide (PySem.W.plainOver K (Sh.gA K "Tree") = true) && (decide (PySem.W.findIn K (.ref (Sh.gA K "Tree")) "__setattr__" = some (some (.builtin "object.__setattr__"))) && (decide (PySem.W.findIn K (.ref (Sh.gA K "Tree")) "many" = some none) && (decide (PySem.W.findIn K (.ref (Sh.gA K "Tree")) "arms" = some none) && (decide (PySem.W.findIn K (.ref (Sh.gA K "Tree")) "_places" = some none) && (decide (PySem.W.makesIn K (Sh.gA K "Tree") = true) && (decide (PySem.W.keepIn K (.ref (Sh.gA K "Tree")) = true) && (decide (PySem.W.readsIn K (Sh.gA K "Tree") (.type "type") = true) && (decide (PySem.W.specialIn K (.ref (Sh.gA K "Tree")) "__getattribute__" = some (some (.builtin "type.__getattribute__"))) && (decide (PySem.W.plainGet K (Sh.gA K "Sift") Str.empty = true) && (decide (PySem.W.hasDictIn K (Sh.gA K "Sift") = true))))))))))))
theorem gr9_ok {K : PySem.W.Frag} (h : gr9 K = true) : (PySem.W.hasDictIn K (Sh.gA K "Tree") = true) ∧ (PySem.W.plainOver K (Sh.gA K "Tree") = true) ∧ (PySem.W.findIn K (.ref (Sh.gA K "Tree")) "__setattr__" = some (some (.builtin "object.__setattr__"))) ∧ (PySem.W.findIn K (.ref (Sh.gA K "Tree")) "many" = some none) ∧ (PySem.W.findIn K (.ref (Sh.gA K "Tree")) "arms" = some none) ∧ (PySem.W.findIn K (.ref (Sh.gA K "Tree")) "_places" = some none) ∧ (PySem.W.makesIn K (Sh.gA K "Tree") = true) ∧ (PySem.W.keepIn K (.ref (Sh.gA K "Tree")) = true) ∧ (PySem.W.readsIn K (Sh.gA K "Tree") (.type "type") = true) ∧ (PySem.W.specialIn K (.ref (Sh.gA K "Tree")) "__getattribute__" = some (some (.builtin "type.__getattribute__"))) ∧ (PySem.W.plainGet K (Sh.gA K "Sift") Str.empty = true) ∧ (PySem.W.hasDictIn K (Sh.gA K "Sift") = true) := by
  unfold gr9 at h
  obtain ⟨h0, h⟩ := Sh.band h
  obtain ⟨h1, h⟩ := Sh.band h
  obtain ⟨h2, h⟩ := Sh.band h
  obtain ⟨h3, h⟩ := Sh.band h
  obtain ⟨h4, h⟩ := Sh.band h
  obtain ⟨h5, h⟩ := Sh.band h
  obtain ⟨h6, h⟩ := Sh.band h
  obtain ⟨h7, h⟩ := Sh.band h
  obtain ⟨h8, h⟩ := Sh.band h
  obtain ⟨h9, h⟩ := Sh.band h
  obtain ⟨h10, h⟩ := Sh.band h
  exact ⟨of_decide_eq_true h0, of_decide_eq_true h1, of_decide_eq_true h2, of_decide_eq_true h3, of_decide_eq_true h4, of_decide_eq_true h5, of_decide_eq_true h6, of_decide_eq_true h7, of_decide_eq_true h8, of_decide_eq_true h9, of_decide_eq_true h10, of_decide_eq_true h⟩
def gr10 (K : PySem.W.Frag) : Bool := decide (PySem.W.plainOver K (Sh.gA K "Sift") = true) && (decide (PySem.W.findIn K (.ref (Sh.gA K "Sift")) "__setattr__" = some (some (.builtin "object.__setattr__"))) && (decide (PySem.W.findIn K (.ref (Sh.gA K "Sift")) "row" = some none) && (decide (PySem.W.findIn K (.ref (Sh.gA K "Sift")) "way" = some none) && (decide (PySem.W.findIn K (.ref (Sh.gA K "Sift")) "looks" = some none) && (decide (PySem.W.makesIn K (Sh.gA K "Sift") = true) && (decide (PySem.W.keepIn K (.ref (Sh.gA K "Sift")) = true) && (decide (PySem.W.plainGet K (Sh.gA K "Before") Str.empty = true) && (decide (PySem.W.hasDictIn K (Sh.gA K "Before") = true) && (decide (PySem.W.plainOver K (Sh.gA K "Before") = true) && (decide (PySem.W.findIn K (.ref (Sh.gA K "Before")) "__setattr__" = some (some (.builtin "object.__setattr__"))) && (decide (PySem.W.findIn K (.ref (Sh.gA K "Before")) "row" = some none))))))))))))
theorem gr10_ok {K : PySem.W.Frag} (h : gr10 K = true) : (PySem.W.plainOver K (Sh.gA K "Sift") = true) ∧ (PySem.W.findIn K (.ref (Sh.gA K "Sift")) "__setattr__" = some (some (.builtin "object.__setattr__"))) ∧ (PySem.W.findIn K (.ref (Sh.gA K "Sift")) "row" = some none) ∧ (PySem.W.findIn K (.ref (Sh.gA K "Sift")) "way" = some none) ∧ (PySem.W.findIn K (.ref (Sh.gA K "Sift")) "looks" = some none) ∧ (PySem.W.makesIn K (Sh.gA K "Sift") = true) ∧ (PySem.W.keepIn K (.ref (Sh.gA K "Sift")) = true) ∧ (PySem.W.plainGet K (Sh.gA K "Before") Str.empty = true) ∧ (PySem.W.hasDictIn K (Sh.gA K "Before") = true) ∧ (PySem.W.plainOver K (Sh.gA K "Before") = true) ∧ (PySem.W.findIn K (.ref (Sh.gA K "Before")) "__setattr__" = some (some (.builtin "object.__setattr__"))) ∧ (PySem.W.findIn K (.ref (Sh.gA K "Before")) "row" = some none) := by
  unfold gr10 at h
  obtain ⟨h0, h⟩ := Sh.band h
  obtain ⟨h1, h⟩ := Sh.band h
  obtain ⟨h2, h⟩ := Sh.band h
  obtain ⟨h3, h⟩ := Sh.band h
  obtain ⟨h4, h⟩ := Sh.band h
  obtain ⟨h5, h⟩ := Sh.band h
  obtain ⟨h6, h⟩ := Sh.band h
  obtain ⟨h7, h⟩ := Sh.band h
  obtain ⟨h8, h⟩ := Sh.band h
  obtain ⟨h9, h⟩ := Sh.band h
  obtain ⟨h10, h⟩ := Sh.band h
  exact ⟨of_decide_eq_true h0, of_decide_eq_true h1, of_decide_eq_true h2, of_decide_eq_true h3, of_decide_eq_true h4, of_decide_eq_true h5, of_decide_eq_true h6, of_decide_eq_true h7, of_decide_eq_true h8, of_decide_eq_true h9, of_decide_eq_true h10, of_decide_eq_true h⟩
def gr11 (K : PySem.W.Frag) : Bool := decide (PySem.W.makesIn K (Sh.gA K "Before") = true) && (decide (PySem.W.keepIn K (.ref (Sh.gA K "Before")) = true) && (decide (PySem.W.findIn K (.ref (Sh.gA K "Before")) "__class__" = some (some (.builtin "object.__class__"))) && (decide (PySem.W.specialIn K (.builtin "object.__class__") "__get__" = some (some (.builtin "getset_descriptor.__get__"))) && (decide (PySem.W.takesIn K (.builtin "object.__class__") = some true) && (decide (PySem.W.mroIn K (Sh.gA K "Before") (.type "object") = some true) && (decide (PySem.W.isClsIn K (Sh.gA K "Before") = true) && (decide (PySem.W.typeIn K (.ref (Sh.gA K "Before")) = some (.type "type")) && (decide (PySem.W.subIn K (.ref (Sh.gA K "Over")) (.ref (Sh.gA K "Before")) = some false) && (decide (((Sh.gA K "Over") == (Sh.gA K "Before")) = false) && (decide (PySem.W.plainGet K (Sh.gA K "Over") Str.empty = true) && (decide (PySem.W.hasDictIn K (Sh.gA K "Over") = true))))))))))))
theorem gr11_ok {K : PySem.W.Frag} (h : gr11 K = true) : (PySem.W.makesIn K (Sh.gA K "Before") = true) ∧ (PySem.W.keepIn K (.ref (Sh.gA K "Before")) = true) ∧ (PySem.W.findIn K (.ref (Sh.gA K "Before")) "__class__" = some (some (.builtin "object.__class__"))) ∧ (PySem.W.specialIn K (.builtin "object.__class__") "__get__" = some (some (.builtin "getset_descriptor.__get__"))) ∧ (PySem.W.takesIn K (.builtin "object.__class__") = some true) ∧ (PySem.W.mroIn K (Sh.gA K "Before") (.type "object") = some true) ∧ (PySem.W.isClsIn K (Sh.gA K "Before") = true) ∧ (PySem.W.typeIn K (.ref (Sh.gA K "Before")) = some (.type "type")) ∧ (PySem.W.subIn K (.ref (Sh.gA K "Over")) (.ref (Sh.gA K "Before")) = some false) ∧ (((Sh.gA K "Over") == (Sh.gA K "Before")) = false) ∧ (PySem.W.plainGet K (Sh.gA K "Over") Str.empty = true) ∧ (PySem.W.hasDictIn K (Sh.gA K "Over") = true) := by
  unfold gr11 at h
  obtain ⟨h0, h⟩ := Sh.band h
  obtain ⟨h1, h⟩ := Sh.band h
  obtain ⟨h2, h⟩ := Sh.band h
  obtain ⟨h3, h⟩ := Sh.band h
  obtain ⟨h4, h⟩ := Sh.band h
  obtain ⟨h5, h⟩ := Sh.band h
  obtain ⟨h6, h⟩ := Sh.band h
  obtain ⟨h7, h⟩ := Sh.band h
  obtain ⟨h8, h⟩ := Sh.band h
  obtain ⟨h9, h⟩ := Sh.band h
  obtain ⟨h10, h⟩ := Sh.band h
  exact ⟨of_decide_eq_true h0, of_decide_eq_true h1, of_decide_eq_true h2, of_decide_eq_true h3, of_decide_eq_true h4, of_decide_eq_true h5, of_decide_eq_true h6, of_decide_eq_true h7, of_decide_eq_true h8, of_decide_eq_true h9, of_decide_eq_true h10, of_decide_eq_true h⟩
def gr12 (K : PySem.W.Frag) : Bool := decide (PySem.W.plainOver K (Sh.gA K "Over") = true) && (decide (PySem.W.findIn K (.ref (Sh.gA K "Over")) "__setattr__" = some (some (.builtin "object.__setattr__"))) && (decide (PySem.W.findIn K (.ref (Sh.gA K "Over")) "place" = some none) && (decide (PySem.W.findIn K (.ref (Sh.gA K "Over")) "key" = some none) && (decide (PySem.W.makesIn K (Sh.gA K "Over") = true) && (decide (PySem.W.keepIn K (.ref (Sh.gA K "Over")) = true) && (decide (PySem.W.findIn K (.ref (Sh.gA K "Over")) "__class__" = some (some (.builtin "object.__class__"))) && (decide (PySem.W.specialIn K (.builtin "object.__class__") "__get__" = some (some (.builtin "getset_descriptor.__get__"))) && (decide (PySem.W.takesIn K (.builtin "object.__class__") = some true) && (decide (PySem.W.mroIn K (Sh.gA K "Over") (.type "object") = some true) && (decide (PySem.W.isClsIn K (Sh.gA K "Over") = true) && (decide (PySem.W.typeIn K (.ref (Sh.gA K "Over")) = some (.type "type")))))))))))))
theorem gr12_ok {K : PySem.W.Frag} (h : gr12 K = true) : (PySem.W.plainOver K (Sh.gA K "Over") = true) ∧ (PySem.W.findIn K (.ref (Sh.gA K "Over")) "__setattr__" = some (some (.builtin "object.__setattr__"))) ∧ (PySem.W.findIn K (.ref (Sh.gA K "Over")) "place" = some none) ∧ (PySem.W.findIn K (.ref (Sh.gA K "Over")) "key" = some none) ∧ (PySem.W.makesIn K (Sh.gA K "Over") = true) ∧ (PySem.W.keepIn K (.ref (Sh.gA K "Over")) = true) ∧ (PySem.W.findIn K (.ref (Sh.gA K "Over")) "__class__" = some (some (.builtin "object.__class__"))) ∧ (PySem.W.specialIn K (.builtin "object.__class__") "__get__" = some (some (.builtin "getset_descriptor.__get__"))) ∧ (PySem.W.takesIn K (.builtin "object.__class__") = some true) ∧ (PySem.W.mroIn K (Sh.gA K "Over") (.type "object") = some true) ∧ (PySem.W.isClsIn K (Sh.gA K "Over") = true) ∧ (PySem.W.typeIn K (.ref (Sh.gA K "Over")) = some (.type "type")) := by
  unfold gr12 at h
  obtain ⟨h0, h⟩ := Sh.band h
  obtain ⟨h1, h⟩ := Sh.band h
  obtain ⟨h2, h⟩ := Sh.band h
  obtain ⟨h3, h⟩ := Sh.band h
  obtain ⟨h4, h⟩ := Sh.band h
  obtain ⟨h5, h⟩ := Sh.band h
  obtain ⟨h6, h⟩ := Sh.band h
  obtain ⟨h7, h⟩ := Sh.band h
  obtain ⟨h8, h⟩ := Sh.band h
  obtain ⟨h9, h⟩ := Sh.band h
  obtain ⟨h10, h⟩ := Sh.band h
  exact ⟨of_decide_eq_true h0, of_decide_eq_true h1, of_decide_eq_true h2, of_decide_eq_true h3, of_decide_eq_true h4, of_decide_eq_true h5, of_decide_eq_true h6, of_decide_eq_true h7, of_decide_eq_true h8, of_decide_eq_true h9, of_decide_eq_true h10, of_decide_eq_true h⟩
def gr13 (K : PySem.W.Frag) : Bool := decide (PySem.W.subIn K (.ref (Sh.gA K "Before")) (.ref (Sh.gA K "Over")) = some false) && (decide (((Sh.gA K "Before") == (Sh.gA K "Over")) = false) && (Sh.fnB K (Sh.gA K "is_integer") "is_integer" false && (Sh.fnB K (Sh.gA K "is_integer_from") "is_integer_from" false && (Sh.fnB K (Sh.gA K "is_key") "is_key" false && (Sh.fnB K (Sh.gA K "check_arms") "check_arms" false && (Sh.fnB K (Sh.gA K "check_many") "check_many" false && (Sh.fnB K (Sh.gA K "check_place") "check_place" false && (Sh.fnB K (Sh.gA K "check_key") "check_key" false && (Sh.fnB K (Sh.gA K "row_of") "row_of" false && (Sh.fnB K (Sh.gA K "check_different") "check_different" false && (Sh.fnB K (Sh.mA K (Sh.gA K "Tree") "__init__") "Tree.__init__" true)))))))))))
theorem gr13_ok {K : PySem.W.Frag} (h : gr13 K = true) : (PySem.W.subIn K (.ref (Sh.gA K "Before")) (.ref (Sh.gA K "Over")) = some false) ∧ (((Sh.gA K "Before") == (Sh.gA K "Over")) = false) ∧ (Sh.fnB K (Sh.gA K "is_integer") "is_integer" false = true) ∧ (Sh.fnB K (Sh.gA K "is_integer_from") "is_integer_from" false = true) ∧ (Sh.fnB K (Sh.gA K "is_key") "is_key" false = true) ∧ (Sh.fnB K (Sh.gA K "check_arms") "check_arms" false = true) ∧ (Sh.fnB K (Sh.gA K "check_many") "check_many" false = true) ∧ (Sh.fnB K (Sh.gA K "check_place") "check_place" false = true) ∧ (Sh.fnB K (Sh.gA K "check_key") "check_key" false = true) ∧ (Sh.fnB K (Sh.gA K "row_of") "row_of" false = true) ∧ (Sh.fnB K (Sh.gA K "check_different") "check_different" false = true) ∧ (Sh.fnB K (Sh.mA K (Sh.gA K "Tree") "__init__") "Tree.__init__" true = true) := by
  unfold gr13 at h
  obtain ⟨h0, h⟩ := Sh.band h
  obtain ⟨h1, h⟩ := Sh.band h
  obtain ⟨h2, h⟩ := Sh.band h
  obtain ⟨h3, h⟩ := Sh.band h
  obtain ⟨h4, h⟩ := Sh.band h
  obtain ⟨h5, h⟩ := Sh.band h
  obtain ⟨h6, h⟩ := Sh.band h
  obtain ⟨h7, h⟩ := Sh.band h
  obtain ⟨h8, h⟩ := Sh.band h
  obtain ⟨h9, h⟩ := Sh.band h
  obtain ⟨h10, h⟩ := Sh.band h
  exact ⟨of_decide_eq_true h0, of_decide_eq_true h1, h2, h3, h4, h5, h6, h7, h8, h9, h10, h⟩
def gr14 (K : PySem.W.Frag) : Bool := Sh.fnB K (Sh.recA K (Sh.clsA K (Sh.gA K "Tree") "of") "classmethod") "Tree.of" true && (Sh.fnB K (Sh.mA K (Sh.gA K "Tree") "__len__") "Tree.__len__" false && (Sh.fnB K (Sh.mA K (Sh.gA K "Tree") "__iter__") "Tree.__iter__" false && (Sh.fnB K (Sh.mA K (Sh.gA K "Tree") "__getitem__") "Tree.__getitem__" false && (Sh.fnB K (Sh.mA K (Sh.gA K "Tree") "parent") "Tree.parent" false && (Sh.fnB K (Sh.mA K (Sh.gA K "Tree") "way_to") "Tree.way_to" false && (Sh.fnB K (Sh.mA K (Sh.gA K "Tree") "depth") "Tree.depth" false && (Sh.fnB K (Sh.mA K (Sh.gA K "Tree") "size") "Tree.size" false && (Sh.fnB K (Sh.mA K (Sh.gA K "Tree") "subtree") "Tree.subtree" false && (Sh.fnB K (Sh.gA K "is_heap") "is_heap" true && (Sh.fnB K (Sh.gA K "faults") "faults" true && (Sh.fnB K (Sh.gA K "heap_of") "heap_of" false)))))))))))
theorem gr14_ok {K : PySem.W.Frag} (h : gr14 K = true) : (Sh.fnB K (Sh.recA K (Sh.clsA K (Sh.gA K "Tree") "of") "classmethod") "Tree.of" true = true) ∧ (Sh.fnB K (Sh.mA K (Sh.gA K "Tree") "__len__") "Tree.__len__" false = true) ∧ (Sh.fnB K (Sh.mA K (Sh.gA K "Tree") "__iter__") "Tree.__iter__" false = true) ∧ (Sh.fnB K (Sh.mA K (Sh.gA K "Tree") "__getitem__") "Tree.__getitem__" false = true) ∧ (Sh.fnB K (Sh.mA K (Sh.gA K "Tree") "parent") "Tree.parent" false = true) ∧ (Sh.fnB K (Sh.mA K (Sh.gA K "Tree") "way_to") "Tree.way_to" false = true) ∧ (Sh.fnB K (Sh.mA K (Sh.gA K "Tree") "depth") "Tree.depth" false = true) ∧ (Sh.fnB K (Sh.mA K (Sh.gA K "Tree") "size") "Tree.size" false = true) ∧ (Sh.fnB K (Sh.mA K (Sh.gA K "Tree") "subtree") "Tree.subtree" false = true) ∧ (Sh.fnB K (Sh.gA K "is_heap") "is_heap" true = true) ∧ (Sh.fnB K (Sh.gA K "faults") "faults" true = true) ∧ (Sh.fnB K (Sh.gA K "heap_of") "heap_of" false = true) := by
  unfold gr14 at h
  obtain ⟨h0, h⟩ := Sh.band h
  obtain ⟨h1, h⟩ := Sh.band h
  obtain ⟨h2, h⟩ := Sh.band h
  obtain ⟨h3, h⟩ := Sh.band h
  obtain ⟨h4, h⟩ := Sh.band h
  obtain ⟨h5, h⟩ := Sh.band h
  obtain ⟨h6, h⟩ := Sh.band h
  obtain ⟨h7, h⟩ := Sh.band h
  obtain ⟨h8, h⟩ := Sh.band h
  obtain ⟨h9, h⟩ := Sh.band h
  obtain ⟨h10, h⟩ := Sh.band h
  exact ⟨h0, h1, h2, h3, h4, h5, h6, h7, h8, h9, h10, h⟩
def gr15 (K : PySem.W.Frag) : Bool := Sh.fnB K (Sh.gA K "different_heap_of") "different_heap_of" false && (Sh.fnB K (Sh.gA K "how_many") "how_many" true && (Sh.fnB K (Sh.mA K (Sh.gA K "Sift") "__init__") "Sift.__init__" false && (Sh.fnB K (Sh.gA K "sift_down") "sift_down" true && (Sh.fnB K (Sh.gA K "least_child") "least_child" false && (Sh.fnB K (Sh.gA K "row_before") "row_before" false && (Sh.fnB K (Sh.gA K "take") "take" true && (Sh.fnB K (Sh.gA K "filled_heap_of") "filled_heap_of" false && (Sh.fnB K (Sh.gA K "check_filled") "check_filled" false && (Sh.fnB K (Sh.mA K (Sh.gA K "Before") "__init__") "Before.__init__" false && (Sh.fnB K (Sh.mA K (Sh.gA K "Before") "shows") "Before.shows" true && (Sh.fnB K (Sh.mA K (Sh.gA K "Over") "__init__") "Over.__init__" false)))))))))))
theorem gr15_ok {K : PySem.W.Frag} (h : gr15 K = true) : (Sh.fnB K (Sh.gA K "different_heap_of") "different_heap_of" false = true) ∧ (Sh.fnB K (Sh.gA K "how_many") "how_many" true = true) ∧ (Sh.fnB K (Sh.mA K (Sh.gA K "Sift") "__init__") "Sift.__init__" false = true) ∧ (Sh.fnB K (Sh.gA K "sift_down") "sift_down" true = true) ∧ (Sh.fnB K (Sh.gA K "least_child") "least_child" false = true) ∧ (Sh.fnB K (Sh.gA K "row_before") "row_before" false = true) ∧ (Sh.fnB K (Sh.gA K "take") "take" true = true) ∧ (Sh.fnB K (Sh.gA K "filled_heap_of") "filled_heap_of" false = true) ∧ (Sh.fnB K (Sh.gA K "check_filled") "check_filled" false = true) ∧ (Sh.fnB K (Sh.mA K (Sh.gA K "Before") "__init__") "Before.__init__" false = true) ∧ (Sh.fnB K (Sh.mA K (Sh.gA K "Before") "shows") "Before.shows" true = true) ∧ (Sh.fnB K (Sh.mA K (Sh.gA K "Over") "__init__") "Over.__init__" false = true) := by
  unfold gr15 at h
  obtain ⟨h0, h⟩ := Sh.band h
  obtain ⟨h1, h⟩ := Sh.band h
  obtain ⟨h2, h⟩ := Sh.band h
  obtain ⟨h3, h⟩ := Sh.band h
  obtain ⟨h4, h⟩ := Sh.band h
  obtain ⟨h5, h⟩ := Sh.band h
  obtain ⟨h6, h⟩ := Sh.band h
  obtain ⟨h7, h⟩ := Sh.band h
  obtain ⟨h8, h⟩ := Sh.band h
  obtain ⟨h9, h⟩ := Sh.band h
  obtain ⟨h10, h⟩ := Sh.band h
  exact ⟨h0, h1, h2, h3, h4, h5, h6, h7, h8, h9, h10, h⟩
def gr16 (K : PySem.W.Frag) : Bool := Sh.fnB K (Sh.mA K (Sh.gA K "Over") "shows") "Over.shows" true && (Sh.fnB K (Sh.gA K "undo_take") "undo_take" true && (Sh.fnB K (Sh.gA K "places_behind") "places_behind" true && (Sh.fnB K (Sh.gA K "heap_with_room") "heap_with_room" false && (Sh.fnB K (Sh.gA K "heap_after") "heap_after" false && (Sh.fnB K (Sh.gA K "place_over_next") "place_over_next" false && (Sh.fnB K (Sh.gA K "_law_number") "_law_number" false && (Sh.fnB K (Sh.gA K "_law_take") "_law_take" false && (Sh.fnB K (Sh.gA K "_law_pick") "_law_pick" false && (Sh.fnB K (Sh.gA K "_law_parent") "_law_parent" false && (Sh.fnB K (Sh.gA K "_law_children") "_law_children" false && (Sh.fnB K (Sh.gA K "_law_way") "_law_way" false)))))))))))
theorem gr16_ok {K : PySem.W.Frag} (h : gr16 K = true) : (Sh.fnB K (Sh.mA K (Sh.gA K "Over") "shows") "Over.shows" true = true) ∧ (Sh.fnB K (Sh.gA K "undo_take") "undo_take" true = true) ∧ (Sh.fnB K (Sh.gA K "places_behind") "places_behind" true = true) ∧ (Sh.fnB K (Sh.gA K "heap_with_room") "heap_with_room" false = true) ∧ (Sh.fnB K (Sh.gA K "heap_after") "heap_after" false = true) ∧ (Sh.fnB K (Sh.gA K "place_over_next") "place_over_next" false = true) ∧ (Sh.fnB K (Sh.gA K "_law_number") "_law_number" false = true) ∧ (Sh.fnB K (Sh.gA K "_law_take") "_law_take" false = true) ∧ (Sh.fnB K (Sh.gA K "_law_pick") "_law_pick" false = true) ∧ (Sh.fnB K (Sh.gA K "_law_parent") "_law_parent" false = true) ∧ (Sh.fnB K (Sh.gA K "_law_children") "_law_children" false = true) ∧ (Sh.fnB K (Sh.gA K "_law_way") "_law_way" false = true) := by
  unfold gr16 at h
  obtain ⟨h0, h⟩ := Sh.band h
  obtain ⟨h1, h⟩ := Sh.band h
  obtain ⟨h2, h⟩ := Sh.band h
  obtain ⟨h3, h⟩ := Sh.band h
  obtain ⟨h4, h⟩ := Sh.band h
  obtain ⟨h5, h⟩ := Sh.band h
  obtain ⟨h6, h⟩ := Sh.band h
  obtain ⟨h7, h⟩ := Sh.band h
  obtain ⟨h8, h⟩ := Sh.band h
  obtain ⟨h9, h⟩ := Sh.band h
  obtain ⟨h10, h⟩ := Sh.band h
  exact ⟨h0, h1, h2, h3, h4, h5, h6, h7, h8, h9, h10, h⟩
def gr17 (K : PySem.W.Frag) : Bool := Sh.fnB K (Sh.gA K "_law_arms") "_law_arms" false && (Sh.fnB K (Sh.gA K "_law_order") "_law_order" false && (Sh.fnB K (Sh.gA K "_law_is_heap") "_law_is_heap" false && (Sh.fnB K (Sh.gA K "_law_lists") "_law_lists" false && (Sh.fnB K (Sh.gA K "_law_heaps") "_law_heaps" false && (Sh.fnB K (Sh.gA K "_law_down") "_law_down" false && (Sh.fnB K (Sh.gA K "_law_out") "_law_out" false && (Sh.fnB K (Sh.gA K "_law_unlike") "_law_unlike" false && (Sh.fnB K (Sh.gA K "law") "law" false))))))))
theorem gr17_ok {K : PySem.W.Frag} (h : gr17 K = true) : (Sh.fnB K (Sh.gA K "_law_arms") "_law_arms" false = true) ∧ (Sh.fnB K (Sh.gA K "_law_order") "_law_order" false = true) ∧ (Sh.fnB K (Sh.gA K "_law_is_heap") "_law_is_heap" false = true) ∧ (Sh.fnB K (Sh.gA K "_law_lists") "_law_lists" false = true) ∧ (Sh.fnB K (Sh.gA K "_law_heaps") "_law_heaps" false = true) ∧ (Sh.fnB K (Sh.gA K "_law_down") "_law_down" false = true) ∧ (Sh.fnB K (Sh.gA K "_law_out") "_law_out" false = true) ∧ (Sh.fnB K (Sh.gA K "_law_unlike") "_law_unlike" false = true) ∧ (Sh.fnB K (Sh.gA K "law") "law" false = true) := by
  unfold gr17 at h
  obtain ⟨h0, h⟩ := Sh.band h
  obtain ⟨h1, h⟩ := Sh.band h
  obtain ⟨h2, h⟩ := Sh.band h
  obtain ⟨h3, h⟩ := Sh.band h
  obtain ⟨h4, h⟩ := Sh.band h
  obtain ⟨h5, h⟩ := Sh.band h
  obtain ⟨h6, h⟩ := Sh.band h
  obtain ⟨h7, h⟩ := Sh.band h
  exact ⟨h0, h1, h2, h3, h4, h5, h6, h7, h⟩
def exs (K : PySem.W.Frag) : Bool := gr0 K && (gr1 K && (gr2 K && (gr3 K && (gr4 K && (gr5 K && (gr6 K && (gr7 K && (gr8 K && (gr9 K && (gr10 K && (gr11 K && (gr12 K && (gr13 K && (gr14 K && (gr15 K && (gr16 K && (gr17 K)))))))))))))))))
def tfs (K : PySem.W.Frag) : List (Addr × Addr) := [((Sh.cdA K (Sh.gA K "least_child")), (He.tabOf K (Sh.cdA K (Sh.gA K "least_child"))))]
def loose : List Str := (["_wall", "__name__", "HeapError", "BadArms", "BadMany", "BadPlace", "BadKey", "BadRow", "NotHeap", "SameKeys", "Empty", "Full", "MOST_ARMS", "MOST_PLACES", "GREATEST_KEY", "is_integer", "is_integer_from", "is_key", "check_arms", "check_many", "check_place", "check_key", "row_of", "check_different", "Tree", "is_heap", "faults", "heap_of", "different_heap_of", "how_many"] : List Str) ++ (["Sift", "sift_down", "least_child", "row_before", "take", "filled_heap_of", "check_filled", "Before", "Over", "undo_take", "places_behind", "heap_with_room", "heap_after", "place_over_next", "_law_number", "_law_take", "_law_pick", "_law_parent", "_law_children", "_law_way", "_law_arms", "_law_order", "_law_is_heap", "_law_lists", "_law_heaps", "_law_down", "_law_out", "_law_unlike"] : List Str)
def adr : List Addr := List.range 1000
abbrev hk : PySem.W.Hook := Sh.hook adr fns exs tfs
theorem run (w : World) : HandSHeadRun.RunEqI R0 (PySem.W.view R0.prog [0, 67]) hk (Sh.obT adr fns exs tfs) 20000 loose w := by
  unfold HandSHeadRun.RunEqI
  kernel_rfl
theorem law_at {w : World} {h : Heap} {mg : Str → Option Value} {fa : Addr} {K : PySem.W.Frag} (X : K.In h) (c : Sh.Tells fns exs tfs h K) (G : h.Ns mainGlobals mg) (hfa : mg "law" = some (.ref fa)) : LamX.LawAtS PySem.Challenge.rw_heaprows_k24_whole_takings w K CX0 15 63 "script" mg fa h := by
  have h := c.ex
  unfold exs at h
  obtain ⟨e0, h⟩ := Sh.band h
  obtain ⟨e1, h⟩ := Sh.band h
  obtain ⟨e2, h⟩ := Sh.band h
  obtain ⟨e3, h⟩ := Sh.band h
  obtain ⟨e4, h⟩ := Sh.band h
  obtain ⟨e5, h⟩ := Sh.band h
  obtain ⟨e6, h⟩ := Sh.band h
  obtain ⟨e7, h⟩ := Sh.band h
  obtain ⟨e8, h⟩ := Sh.band h
  obtain ⟨e9, h⟩ := Sh.band h
  obtain ⟨e10, h⟩ := Sh.band h
  obtain ⟨e11, h⟩ := Sh.band h
  obtain ⟨e12, h⟩ := Sh.band h
  obtain ⟨e13, h⟩ := Sh.band h
  obtain ⟨e14, h⟩ := Sh.band h
  obtain ⟨e15, h⟩ := Sh.band h
  obtain ⟨e16, h⟩ := Sh.band h
  obtain ⟨h_aC, h_aCS, h_aCQ, h_aCV, h_a_is_integer, h_a_is_integer_from, h_a_is_key, h_a_check_arms, h_a_check_many, h_a_check_place, h_a_check_key, h_a_row_of⟩ := gr0_ok e0
  obtain ⟨h_a_check_different, h_a_t___init__, h_i_t___init__, h_w_t___init__, h_a_t_of, h_r_t_of, h_n_t_of, h_w_t_of, h_a_t___len__, h_i_t___len__, h_n_t___len__, h_a_t___iter__⟩ := gr1_ok e1
  obtain ⟨h_i_t___iter__, h_n_t___iter__, h_a_t___getitem__, h_i_t___getitem__, h_n_t___getitem__, h_a_t_parent, h_i_t_parent, h_a_t_way_to, h_i_t_way_to, h_a_t_depth, h_i_t_depth, h_a_t_size⟩ := gr2_ok e2
  obtain ⟨h_i_t_size, h_a_t_subtree, h_i_t_subtree, h_a_is_heap, h_w_is_heap, h_a_faults, h_w_faults, h_a_heap_of, h_a_different_heap_of, h_a_how_many, h_w_how_many, h_a_z___init__⟩ := gr3_ok e3
  obtain ⟨h_i_z___init__, h_a_sift_down, h_w_sift_down, h_a_least_child, h_a_row_before, h_a_take, h_w_take, h_a_filled_heap_of, h_a_check_filled, h_a_q___init__, h_i_q___init__, h_a_q_shows⟩ := gr4_ok e4
  obtain ⟨h_i_q_shows, h_w_q_shows, h_a_v___init__, h_i_v___init__, h_a_v_shows, h_i_v_shows, h_w_v_shows, h_a_undo_take, h_w_undo_take, h_a_places_behind, h_w_places_behind, h_a_heap_with_room⟩ := gr5_ok e5
  obtain ⟨h_a_heap_after, h_a_place_over_next, h_a__law_number, h_a__law_take, h_a__law_pick, h_a__law_parent, h_a__law_children, h_a__law_way, h_a__law_arms, h_a__law_order, h_a__law_is_heap, h_a__law_lists⟩ := gr6_ok e6
  obtain ⟨h_a__law_heaps, h_a__law_down, h_a__law_out, h_a__law_unlike, h_a_law, h_q_GREATEST_KEY, h_q_MOST_ARMS, h_q_MOST_PLACES, h_y_factorial, h_z_any, h_z_bool, h_z_enumerate⟩ := gr7_ok e7
  obtain ⟨h_z_int, h_z_isinstance, h_z_iter, h_z_len, h_z_list, h_z_min, h_z_range, h_z_sorted, h_z_sum, h_z_tuple, h_z_zip, h_pg⟩ := gr8_ok e8
  obtain ⟨h_hd, h_po_, h_sa, h_na_nMany, h_na_nArms, h_na_nPl, h_mk, h_kc, h_rd, h_ga, h_pgS, h_hdS⟩ := gr9_ok e9
  obtain ⟨h_po_S, h_saS, h_na_nRow, h_na_nWay, h_na_nLooks, h_mkS, h_kcS, h_pgQ, h_hdQ, h_po_Q, h_saQ, h_na_qRow⟩ := gr10_ok e10
  obtain ⟨h_mkQ, h_kcQ, h_kaQ, h_knQ, h_ktkQ, h_kmQ, h_kclQ, h_ktyQ, h_ensQ_Over, h_nesQ_Over, h_pgV, h_hdV⟩ := gr11_ok e11
  obtain ⟨h_po_V, h_saV, h_na_vPlace, h_na_vKey, h_mkV, h_kcV, h_kaV, h_knV, h_ktkV, h_kmV, h_kclV, h_ktyV⟩ := gr12_ok e12
  obtain ⟨h_ensV_Before, h_nesV_Before, h_b_is_integer, h_b_is_integer_from, h_b_is_key, h_b_check_arms, h_b_check_many, h_b_check_place, h_b_check_key, h_b_row_of, h_b_check_different, h_b_t___init__⟩ := gr13_ok e13
  obtain ⟨h_b_t_of, h_b_t___len__, h_b_t___iter__, h_b_t___getitem__, h_b_t_parent, h_b_t_way_to, h_b_t_depth, h_b_t_size, h_b_t_subtree, h_b_is_heap, h_b_faults, h_b_heap_of⟩ := gr14_ok e14
  obtain ⟨h_b_different_heap_of, h_b_how_many, h_b_z___init__, h_b_sift_down, h_b_least_child, h_b_row_before, h_b_take, h_b_filled_heap_of, h_b_check_filled, h_b_q___init__, h_b_q_shows, h_b_v___init__⟩ := gr15_ok e15
  obtain ⟨h_b_v_shows, h_b_undo_take, h_b_places_behind, h_b_heap_with_room, h_b_heap_after, h_b_place_over_next, h_b__law_number, h_b__law_take, h_b__law_pick, h_b__law_parent, h_b__law_children, h_b__law_way⟩ := gr16_ok e16
  obtain ⟨h_b__law_arms, h_b__law_order, h_b__law_is_heap, h_b__law_lists, h_b__law_heaps, h_b__law_down, h_b__law_out, h_b__law_unlike, h_b_law⟩ := gr17_ok h
  obtain ⟨_, _, _, _, _, _, _, _, _, h_l_is_integer, h_c_is_integer, h_k_is_integer⟩ := Sh.fn_g (d := q_is_integer) (p := (Sh.gA K "is_integer")) (c.fn q_is_integer (Sh.at_ 0 rfl)) h_b_is_integer
  obtain ⟨_, _, _, _, _, _, _, _, _, h_l_is_integer_from, h_c_is_integer_from, h_k_is_integer_from⟩ := Sh.fn_g (d := q_is_integer_from) (p := (Sh.gA K "is_integer_from")) (c.fn q_is_integer_from (Sh.at_ 1 rfl)) h_b_is_integer_from
  obtain ⟨_, _, _, _, _, _, _, _, _, h_l_is_key, h_c_is_key, h_k_is_key⟩ := Sh.fn_g (d := q_is_key) (p := (Sh.gA K "is_key")) (c.fn q_is_key (Sh.at_ 2 rfl)) h_b_is_key
  obtain ⟨_, _, _, _, _, _, _, _, _, h_l_check_arms, h_c_check_arms, h_k_check_arms⟩ := Sh.fn_g (d := q_check_arms) (p := (Sh.gA K "check_arms")) (c.fn q_check_arms (Sh.at_ 3 rfl)) h_b_check_arms
  obtain ⟨_, _, _, _, _, _, _, _, _, h_l_check_many, h_c_check_many, h_k_check_many⟩ := Sh.fn_g (d := q_check_many) (p := (Sh.gA K "check_many")) (c.fn q_check_many (Sh.at_ 4 rfl)) h_b_check_many
  obtain ⟨_, _, _, _, _, _, _, _, _, h_l_check_place, h_c_check_place, h_k_check_place⟩ := Sh.fn_g (d := q_check_place) (p := (Sh.gA K "check_place")) (c.fn q_check_place (Sh.at_ 5 rfl)) h_b_check_place
  obtain ⟨_, _, _, _, _, _, _, _, _, h_l_check_key, h_c_check_key, h_k_check_key⟩ := Sh.fn_g (d := q_check_key) (p := (Sh.gA K "check_key")) (c.fn q_check_key (Sh.at_ 6 rfl)) h_b_check_key
  obtain ⟨_, _, _, _, _, _, _, _, _, h_l_row_of, h_c_row_of, h_k_row_of⟩ := Sh.fn_g (d := q_row_of) (p := (Sh.gA K "row_of")) (c.fn q_row_of (Sh.at_ 7 rfl)) h_b_row_of
  obtain ⟨_, _, _, _, _, _, _, _, _, h_l_check_different, h_c_check_different, h_k_check_different⟩ := Sh.fn_g (d := q_check_different) (p := (Sh.gA K "check_different")) (c.fn q_check_different (Sh.at_ 8 rfl)) h_b_check_different
  obtain ⟨_, _, _, _, _, _, _, _, h_l_t___init__, h_c_t___init__, h_k_t___init__⟩ := Sh.fn_k (d := q_t___init__) (p := (Sh.mA K (Sh.gA K "Tree") "__init__")) (c.fn q_t___init__ (Sh.at_ 9 rfl)) h_b_t___init__
  obtain ⟨_, _, _, _, _, _, _, _, h_l_t_of, h_c_t_of, h_k_t_of⟩ := Sh.fn_k (d := q_t_of) (p := (Sh.recA K (Sh.clsA K (Sh.gA K "Tree") "of") "classmethod")) (c.fn q_t_of (Sh.at_ 10 rfl)) h_b_t_of
  obtain ⟨_, _, _, _, _, _, _, _, _, h_l_t___len__, h_c_t___len__, h_k_t___len__⟩ := Sh.fn_g (d := q_t___len__) (p := (Sh.mA K (Sh.gA K "Tree") "__len__")) (c.fn q_t___len__ (Sh.at_ 11 rfl)) h_b_t___len__
  obtain ⟨_, _, _, _, _, _, _, _, _, h_l_t___iter__, h_c_t___iter__, h_k_t___iter__⟩ := Sh.fn_g (d := q_t___iter__) (p := (Sh.mA K (Sh.gA K "Tree") "__iter__")) (c.fn q_t___iter__ (Sh.at_ 12 rfl)) h_b_t___iter__
  obtain ⟨_, _, _, _, _, _, _, _, _, h_l_t___getitem__, h_c_t___getitem__, h_k_t___getitem__⟩ := Sh.fn_g (d := q_t___getitem__) (p := (Sh.mA K (Sh.gA K "Tree") "__getitem__")) (c.fn q_t___getitem__ (Sh.at_ 13 rfl)) h_b_t___getitem__
  obtain ⟨_, _, _, _, _, _, _, _, _, h_l_t_parent, h_c_t_parent, h_k_t_parent⟩ := Sh.fn_g (d := q_t_parent) (p := (Sh.mA K (Sh.gA K "Tree") "parent")) (c.fn q_t_parent (Sh.at_ 14 rfl)) h_b_t_parent
  obtain ⟨_, _, _, _, _, _, _, _, _, h_l_t_way_to, h_c_t_way_to, h_k_t_way_to⟩ := Sh.fn_g (d := q_t_way_to) (p := (Sh.mA K (Sh.gA K "Tree") "way_to")) (c.fn q_t_way_to (Sh.at_ 15 rfl)) h_b_t_way_to
  obtain ⟨_, _, _, _, _, _, _, _, _, h_l_t_depth, h_c_t_depth, h_k_t_depth⟩ := Sh.fn_g (d := q_t_depth) (p := (Sh.mA K (Sh.gA K "Tree") "depth")) (c.fn q_t_depth (Sh.at_ 16 rfl)) h_b_t_depth
  obtain ⟨_, _, _, _, _, _, _, _, _, h_l_t_size, h_c_t_size, h_k_t_size⟩ := Sh.fn_g (d := q_t_size) (p := (Sh.mA K (Sh.gA K "Tree") "size")) (c.fn q_t_size (Sh.at_ 17 rfl)) h_b_t_size
  obtain ⟨_, _, _, _, _, _, _, _, _, h_l_t_subtree, h_c_t_subtree, h_k_t_subtree⟩ := Sh.fn_g (d := q_t_subtree) (p := (Sh.mA K (Sh.gA K "Tree") "subtree")) (c.fn q_t_subtree (Sh.at_ 18 rfl)) h_b_t_subtree
  obtain ⟨_, _, _, _, _, _, _, _, h_l_is_heap, h_c_is_heap, h_k_is_heap⟩ := Sh.fn_k (d := q_is_heap) (p := (Sh.gA K "is_heap")) (c.fn q_is_heap (Sh.at_ 19 rfl)) h_b_is_heap
  obtain ⟨_, _, _, _, _, _, _, _, h_l_faults, h_c_faults, h_k_faults⟩ := Sh.fn_k (d := q_faults) (p := (Sh.gA K "faults")) (c.fn q_faults (Sh.at_ 20 rfl)) h_b_faults
  obtain ⟨_, _, _, _, _, _, _, _, _, h_l_heap_of, h_c_heap_of, h_k_heap_of⟩ := Sh.fn_g (d := q_heap_of) (p := (Sh.gA K "heap_of")) (c.fn q_heap_of (Sh.at_ 21 rfl)) h_b_heap_of
  obtain ⟨_, _, _, _, _, _, _, _, _, h_l_different_heap_of, h_c_different_heap_of, h_k_different_heap_of⟩ := Sh.fn_g (d := q_different_heap_of) (p := (Sh.gA K "different_heap_of")) (c.fn q_different_heap_of (Sh.at_ 22 rfl)) h_b_different_heap_of
  obtain ⟨_, _, _, _, _, _, _, _, h_l_how_many, h_c_how_many, h_k_how_many⟩ := Sh.fn_k (d := q_how_many) (p := (Sh.gA K "how_many")) (c.fn q_how_many (Sh.at_ 23 rfl)) h_b_how_many
  obtain ⟨_, _, _, _, _, _, _, _, _, h_l_z___init__, h_c_z___init__, h_k_z___init__⟩ := Sh.fn_g (d := q_z___init__) (p := (Sh.mA K (Sh.gA K "Sift") "__init__")) (c.fn q_z___init__ (Sh.at_ 24 rfl)) h_b_z___init__
  obtain ⟨_, _, _, _, _, _, _, _, h_l_sift_down, h_c_sift_down, h_k_sift_down⟩ := Sh.fn_k (d := q_sift_down) (p := (Sh.gA K "sift_down")) (c.fn q_sift_down (Sh.at_ 25 rfl)) h_b_sift_down
  obtain ⟨_, _, _, _, _, _, _, _, h_l_least_child, h_c_least_child, h_k_least_child⟩ := Sh.fn_c (d := q_least_child) (p := (Sh.gA K "least_child")) (c.fn q_least_child (Sh.at_ 26 rfl)) h_b_least_child
  obtain ⟨_, _, _, _, _, _, _, _, _, h_l_row_before, h_c_row_before, h_k_row_before⟩ := Sh.fn_g (d := q_row_before) (p := (Sh.gA K "row_before")) (c.fn q_row_before (Sh.at_ 27 rfl)) h_b_row_before
  obtain ⟨_, _, _, _, _, _, _, _, h_l_take, h_c_take, h_k_take⟩ := Sh.fn_k (d := q_take) (p := (Sh.gA K "take")) (c.fn q_take (Sh.at_ 28 rfl)) h_b_take
  obtain ⟨_, _, _, _, _, _, _, _, _, h_l_filled_heap_of, h_c_filled_heap_of, h_k_filled_heap_of⟩ := Sh.fn_g (d := q_filled_heap_of) (p := (Sh.gA K "filled_heap_of")) (c.fn q_filled_heap_of (Sh.at_ 29 rfl)) h_b_filled_heap_of
  obtain ⟨_, _, _, _, _, _, _, _, _, h_l_check_filled, h_c_check_filled, h_k_check_filled⟩ := Sh.fn_g (d := q_check_filled) (p := (Sh.gA K "check_filled")) (c.fn q_check_filled (Sh.at_ 30 rfl)) h_b_check_filled
  obtain ⟨_, _, _, _, _, _, _, _, _, h_l_q___init__, h_c_q___init__, h_k_q___init__⟩ := Sh.fn_g (d := q_q___init__) (p := (Sh.mA K (Sh.gA K "Before") "__init__")) (c.fn q_q___init__ (Sh.at_ 31 rfl)) h_b_q___init__
  obtain ⟨_, _, _, _, _, _, _, _, h_l_q_shows, h_c_q_shows, h_k_q_shows⟩ := Sh.fn_k (d := q_q_shows) (p := (Sh.mA K (Sh.gA K "Before") "shows")) (c.fn q_q_shows (Sh.at_ 32 rfl)) h_b_q_shows
  obtain ⟨_, _, _, _, _, _, _, _, _, h_l_v___init__, h_c_v___init__, h_k_v___init__⟩ := Sh.fn_g (d := q_v___init__) (p := (Sh.mA K (Sh.gA K "Over") "__init__")) (c.fn q_v___init__ (Sh.at_ 33 rfl)) h_b_v___init__
  obtain ⟨_, _, _, _, _, _, _, _, h_l_v_shows, h_c_v_shows, h_k_v_shows⟩ := Sh.fn_k (d := q_v_shows) (p := (Sh.mA K (Sh.gA K "Over") "shows")) (c.fn q_v_shows (Sh.at_ 34 rfl)) h_b_v_shows
  obtain ⟨_, _, _, _, _, _, _, _, h_l_undo_take, h_c_undo_take, h_k_undo_take⟩ := Sh.fn_k (d := q_undo_take) (p := (Sh.gA K "undo_take")) (c.fn q_undo_take (Sh.at_ 35 rfl)) h_b_undo_take
  obtain ⟨_, _, _, _, _, _, _, _, h_l_places_behind, h_c_places_behind, h_k_places_behind⟩ := Sh.fn_k (d := q_places_behind) (p := (Sh.gA K "places_behind")) (c.fn q_places_behind (Sh.at_ 36 rfl)) h_b_places_behind
  obtain ⟨_, _, _, _, _, _, _, _, _, h_l_heap_with_room, h_c_heap_with_room, h_k_heap_with_room⟩ := Sh.fn_g (d := q_heap_with_room) (p := (Sh.gA K "heap_with_room")) (c.fn q_heap_with_room (Sh.at_ 37 rfl)) h_b_heap_with_room
  obtain ⟨_, _, _, _, _, _, _, _, _, h_l_heap_after, h_c_heap_after, h_k_heap_after⟩ := Sh.fn_g (d := q_heap_after) (p := (Sh.gA K "heap_after")) (c.fn q_heap_after (Sh.at_ 38 rfl)) h_b_heap_after
  obtain ⟨_, _, _, _, _, _, _, _, _, h_l_place_over_next, h_c_place_over_next, h_k_place_over_next⟩ := Sh.fn_g (d := q_place_over_next) (p := (Sh.gA K "place_over_next")) (c.fn q_place_over_next (Sh.at_ 39 rfl)) h_b_place_over_next
  obtain ⟨_, _, _, _, _, _, _, _, _, h_l__law_number, h_c__law_number, h_k__law_number⟩ := Sh.fn_g (d := q__law_number) (p := (Sh.gA K "_law_number")) (c.fn q__law_number (Sh.at_ 40 rfl)) h_b__law_number
  obtain ⟨_, _, _, _, _, _, _, _, _, h_l__law_take, h_c__law_take, h_k__law_take⟩ := Sh.fn_g (d := q__law_take) (p := (Sh.gA K "_law_take")) (c.fn q__law_take (Sh.at_ 41 rfl)) h_b__law_take
  obtain ⟨_, _, _, _, _, _, _, _, _, h_l__law_pick, h_c__law_pick, h_k__law_pick⟩ := Sh.fn_g (d := q__law_pick) (p := (Sh.gA K "_law_pick")) (c.fn q__law_pick (Sh.at_ 42 rfl)) h_b__law_pick
  obtain ⟨_, _, _, _, _, _, _, _, _, h_l__law_parent, h_c__law_parent, h_k__law_parent⟩ := Sh.fn_g (d := q__law_parent) (p := (Sh.gA K "_law_parent")) (c.fn q__law_parent (Sh.at_ 43 rfl)) h_b__law_parent
  obtain ⟨_, _, _, _, _, _, _, _, _, h_l__law_children, h_c__law_children, h_k__law_children⟩ := Sh.fn_g (d := q__law_children) (p := (Sh.gA K "_law_children")) (c.fn q__law_children (Sh.at_ 44 rfl)) h_b__law_children
  obtain ⟨_, _, _, _, _, _, _, _, _, h_l__law_way, h_c__law_way, h_k__law_way⟩ := Sh.fn_g (d := q__law_way) (p := (Sh.gA K "_law_way")) (c.fn q__law_way (Sh.at_ 45 rfl)) h_b__law_way
  obtain ⟨_, _, _, _, _, _, _, _, _, h_l__law_arms, h_c__law_arms, h_k__law_arms⟩ := Sh.fn_g (d := q__law_arms) (p := (Sh.gA K "_law_arms")) (c.fn q__law_arms (Sh.at_ 46 rfl)) h_b__law_arms
  obtain ⟨_, _, _, _, _, _, _, _, _, h_l__law_order, h_c__law_order, h_k__law_order⟩ := Sh.fn_g (d := q__law_order) (p := (Sh.gA K "_law_order")) (c.fn q__law_order (Sh.at_ 47 rfl)) h_b__law_order
  obtain ⟨_, _, _, _, _, _, _, _, _, h_l__law_is_heap, h_c__law_is_heap, h_k__law_is_heap⟩ := Sh.fn_g (d := q__law_is_heap) (p := (Sh.gA K "_law_is_heap")) (c.fn q__law_is_heap (Sh.at_ 48 rfl)) h_b__law_is_heap
  obtain ⟨_, _, _, _, _, _, _, _, _, h_l__law_lists, h_c__law_lists, h_k__law_lists⟩ := Sh.fn_g (d := q__law_lists) (p := (Sh.gA K "_law_lists")) (c.fn q__law_lists (Sh.at_ 49 rfl)) h_b__law_lists
  obtain ⟨_, _, _, _, _, _, _, _, _, h_l__law_heaps, h_c__law_heaps, h_k__law_heaps⟩ := Sh.fn_g (d := q__law_heaps) (p := (Sh.gA K "_law_heaps")) (c.fn q__law_heaps (Sh.at_ 50 rfl)) h_b__law_heaps
  obtain ⟨_, _, _, _, _, _, _, _, _, h_l__law_down, h_c__law_down, h_k__law_down⟩ := Sh.fn_g (d := q__law_down) (p := (Sh.gA K "_law_down")) (c.fn q__law_down (Sh.at_ 51 rfl)) h_b__law_down
  obtain ⟨_, _, _, _, _, _, _, _, _, h_l__law_out, h_c__law_out, h_k__law_out⟩ := Sh.fn_g (d := q__law_out) (p := (Sh.gA K "_law_out")) (c.fn q__law_out (Sh.at_ 52 rfl)) h_b__law_out
  obtain ⟨_, _, _, _, _, _, _, _, _, h_l__law_unlike, h_c__law_unlike, h_k__law_unlike⟩ := Sh.fn_g (d := q__law_unlike) (p := (Sh.gA K "_law_unlike")) (c.fn q__law_unlike (Sh.at_ 53 rfl)) h_b__law_unlike
  obtain ⟨_, _, _, _, _, _, _, _, _, h_l_law, h_c_law, h_k_law⟩ := Sh.fn_g (d := q_law) (p := (Sh.gA K "law")) (c.fn q_law (Sh.at_ 54 rfl)) h_b_law
  exact all_mk X G hfa h_aC h_aCS h_aCQ h_aCV h_a_is_integer h_l_is_integer h_c_is_integer h_k_is_integer h_a_is_integer_from h_l_is_integer_from h_c_is_integer_from h_k_is_integer_from h_a_is_key h_l_is_key h_c_is_key h_k_is_key h_a_check_arms h_l_check_arms h_c_check_arms h_k_check_arms h_a_check_many h_l_check_many h_c_check_many h_k_check_many h_a_check_place h_l_check_place h_c_check_place h_k_check_place h_a_check_key h_l_check_key h_c_check_key h_k_check_key h_a_row_of h_l_row_of h_c_row_of h_k_row_of h_a_check_different h_l_check_different h_c_check_different h_k_check_different h_a_t___init__ h_i_t___init__ h_l_t___init__ h_c_t___init__ h_k_t___init__ h_w_t___init__ h_a_t_of h_r_t_of h_n_t_of h_l_t_of h_c_t_of h_k_t_of h_w_t_of h_a_t___len__ h_i_t___len__ h_n_t___len__ h_l_t___len__ h_c_t___len__ h_k_t___len__ h_a_t___iter__ h_i_t___iter__ h_n_t___iter__ h_l_t___iter__ h_c_t___iter__ h_k_t___iter__ h_a_t___getitem__ h_i_t___getitem__ h_n_t___getitem__ h_l_t___getitem__ h_c_t___getitem__ h_k_t___getitem__ h_a_t_parent h_i_t_parent h_l_t_parent h_c_t_parent h_k_t_parent h_a_t_way_to h_i_t_way_to h_l_t_way_to h_c_t_way_to h_k_t_way_to h_a_t_depth h_i_t_depth h_l_t_depth h_c_t_depth h_k_t_depth h_a_t_size h_i_t_size h_l_t_size h_c_t_size h_k_t_size h_a_t_subtree h_i_t_subtree h_l_t_subtree h_c_t_subtree h_k_t_subtree h_a_is_heap h_l_is_heap h_c_is_heap h_k_is_heap h_w_is_heap h_a_faults h_l_faults h_c_faults h_k_faults h_w_faults h_a_heap_of h_l_heap_of h_c_heap_of h_k_heap_of h_a_different_heap_of h_l_different_heap_of h_c_different_heap_of h_k_different_heap_of h_a_how_many h_l_how_many h_c_how_many h_k_how_many h_w_how_many h_a_z___init__ h_i_z___init__ h_l_z___init__ h_c_z___init__ h_k_z___init__ h_a_sift_down h_l_sift_down h_c_sift_down h_k_sift_down h_w_sift_down h_a_least_child h_l_least_child h_c_least_child h_k_least_child h_a_row_before h_l_row_before h_c_row_before h_k_row_before h_a_take h_l_take h_c_take h_k_take h_w_take h_a_filled_heap_of h_l_filled_heap_of h_c_filled_heap_of h_k_filled_heap_of h_a_check_filled h_l_check_filled h_c_check_filled h_k_check_filled h_a_q___init__ h_i_q___init__ h_l_q___init__ h_c_q___init__ h_k_q___init__ h_a_q_shows h_i_q_shows h_l_q_shows h_c_q_shows h_k_q_shows h_w_q_shows h_a_v___init__ h_i_v___init__ h_l_v___init__ h_c_v___init__ h_k_v___init__ h_a_v_shows h_i_v_shows h_l_v_shows h_c_v_shows h_k_v_shows h_w_v_shows h_a_undo_take h_l_undo_take h_c_undo_take h_k_undo_take h_w_undo_take h_a_places_behind h_l_places_behind h_c_places_behind h_k_places_behind h_w_places_behind h_a_heap_with_room h_l_heap_with_room h_c_heap_with_room h_k_heap_with_room h_a_heap_after h_l_heap_after h_c_heap_after h_k_heap_after h_a_place_over_next h_l_place_over_next h_c_place_over_next h_k_place_over_next h_a__law_number h_l__law_number h_c__law_number h_k__law_number h_a__law_take h_l__law_take h_c__law_take h_k__law_take h_a__law_pick h_l__law_pick h_c__law_pick h_k__law_pick h_a__law_parent h_l__law_parent h_c__law_parent h_k__law_parent h_a__law_children h_l__law_children h_c__law_children h_k__law_children h_a__law_way h_l__law_way h_c__law_way h_k__law_way h_a__law_arms h_l__law_arms h_c__law_arms h_k__law_arms h_a__law_order h_l__law_order h_c__law_order h_k__law_order h_a__law_is_heap h_l__law_is_heap h_c__law_is_heap h_k__law_is_heap h_a__law_lists h_l__law_lists h_c__law_lists h_k__law_lists h_a__law_heaps h_l__law_heaps h_c__law_heaps h_k__law_heaps h_a__law_down h_l__law_down h_c__law_down h_k__law_down h_a__law_out h_l__law_out h_c__law_out h_k__law_out h_a__law_unlike h_l__law_unlike h_c__law_unlike h_k__law_unlike h_a_law h_l_law h_c_law h_k_law h_q_GREATEST_KEY h_q_MOST_ARMS h_q_MOST_PLACES h_y_factorial h_z_any h_z_bool h_z_enumerate h_z_int h_z_isinstance h_z_iter h_z_len h_z_list h_z_min h_z_range h_z_sorted h_z_sum h_z_tuple h_z_zip h_pg h_hd h_po_ h_sa h_na_nMany h_na_nArms h_na_nPl h_mk h_kc h_rd h_ga h_pgS h_hdS h_po_S h_saS h_na_nRow h_na_nWay h_na_nLooks h_mkS h_kcS h_pgQ h_hdQ h_po_Q h_saQ h_na_qRow h_mkQ h_kcQ h_kaQ h_knQ h_ktkQ h_kmQ h_kclQ h_ktyQ h_ensQ_Over h_nesQ_Over h_pgV h_hdV h_po_V h_saV h_na_vPlace h_na_vKey h_mkV h_kcV h_kaV h_knV h_ktkV h_kmV h_kclV h_ktyV h_ensV_Before h_nesV_Before (c.em ((Sh.cdA K (Sh.gA K "least_child")), (He.tabOf K (Sh.cdA K (Sh.gA K "least_child")))) (by unfold tfs; simp)) (c.hd ((Sh.cdA K (Sh.gA K "least_child")), (He.tabOf K (Sh.cdA K (Sh.gA K "least_child")))) (by unfold tfs; simp)) (c.out ((Sh.cdA K (Sh.gA K "least_child")), (He.tabOf K (Sh.cdA K (Sh.gA K "least_child")))) (by unfold tfs; simp))
end Tw

open PySem PySem.W PySem.Calls PyProof.Rows in
set_option maxRecDepth 100000 in
set_option maxHeartbeats 0 in
theorem PySem.Challenge.cw_heaprows_k24_whole_takings_holds : PySem.Challenge.rw_heaprows_k24_whole_takings.Holds := by
  w_on; o_law
  refine HandSHeadRun.head_imp (r := OpenLaw.row PySem.Challenge.rw_heaprows_k24_whole_takings) (q := view (OpenLaw.row PySem.Challenge.rw_heaprows_k24_whole_takings).prog [0, 67]) (H := Tw.hk) (ob := Sh.obT Tw.adr Tw.fns Tw.exs Tw.tfs) (M := 20000) (loose := Tw.loose) (d := HandSHeadRun.topDef (OpenLaw.row PySem.Challenge.rw_heaprows_k24_whole_takings).prog 67) (kwd := []) (Sh.obT_eq _ _ _ _)
    Tw.run (by kernel_rfl) (by kernel_rfl) (by kernel_rfl) (by rfl) (by first | assumption | decide +kernel) (by decide +kernel) ⟨rfl, rfl, rfl, rfl, rfl, by decide +kernel⟩ ?hw ?hc
  case hw => w_witness2
  case hc =>
    refine LamX.walk_ofTsE (l := PySem.Challenge.rw_heaprows_k24_whole_takings) (n := 63) (k := 15) (x := "script") (CX := fun _ => L2.CX0) rfl (by decide) (by kernel_rfl) ⟨rfl, by decide, by decide⟩ ?F (fun _ _ _ _ _ z => z)
    intro w mg fa h Y G hmg0
    obtain ⟨K, KX, c⟩ := Y
    have hmg : mg ("law" : PySem.Str) = some (.ref fa) := (congrArg mg (show (HandSHeadRun.topDef (OpenLaw.row PySem.Challenge.rw_heaprows_k24_whole_takings).prog 67).name = ("law" : PySem.Str) by kernel_rfl)).symm.trans hmg0
    exact ⟨K, KX, Tw.law_at KX c G hmg⟩
