import PyProof.Rows.All
import Wide.All
import OpenK.AllK
import Wide.FinOn
import HandS.ForMost
import HandS.ForExc
import HandS.IsInst
import HandS.MakeKwOnly
import HandS.ClsMeth
import HandS.Conv
import HandS.Codes
import HandS.Walk
import HandS.Style
import HandS.Flow
import HandS.Wide
import HandS.OwnEq
import HandS.OwnIter
import HandS.IterVal
import KE.KOwnIter
import PyProof.FactsAll.tuple_iterator_1
import HandS.Deep
import HandS.SortRule
import KE.GoesMore
import KE.GoesEnum
import KE.KLam
import KE.DataMinKey
import HandS.Base
import HandS.Call
import HandS.List
import HandS.Comp
import HandS.Lambda
import HandS.Nested
import HandS.Keys
import HandS.SortInts
import PyProof.NeKinds
import HandS.SetFor
import HandS.Strs
import HandS.TupSets
import KE.SortData
import HandS.Gcd
import KE.KMathGC
import HandS.Sort
import PyProof.AutoSeq1
import KE.KTurns
import HandS.TupLe
import KE.KSortTup
import HandS.Defaults
import HandS.Zip
import HandS.TryOnly
import HandS.TupAny
import KE.DataFind
import PyProof.SumWalkG
import KE.DataMinMax
import HandS.TupMul
import KE.GoesZip
import HandS.Iter
import HandS.Dict
import HandS.More
import HandS.DictComp
import HandS.DictEq
import KE.KDictList
import HandS.SetKeys
import HandS.DictTup
import PyProof.DictMoreH
import KE.KeyNested
import HandS.TupLen
import KE.KStateDown
import HandS.Head0
import HandS.Head1
import HandS.Head2
import HandS.HeadHook4
import HandS.HeadWalk
import KE.KNestM
import HandS.EndTab
import HandS.Rev
import HandS.Small
import HandS.ListItems
import HandS.Head3
import HandS.HeadEnd
import PySem.Challenge.RW_heaprows_k30_whole_mended_shown
set_option Elab.async false
set_option maxRecDepth 100000
set_option Elab.async false
set_option linter.all false
set_option maxRecDepth 100000
set_option maxHeartbeats 2000000
namespace Tw
open PySem PySem.Spec PyProof.Rows L2

/-! own rules: an instance with dunder methods -/
/-- a dunder method of the class at C, its def at f -/
structure Dn (K : PySem.W.Frag) (C : Addr) (m : Str) (f : Addr) : Prop where
  at_ : PySem.W.findIn K (.ref C) m = some (some (.ref f))
  fn : PySem.W.isFn K (.ref f) = true
  fi : PySem.W.fnIn K f = true


section
variable {X : Cx} {CX : CXT} {k n : Nat} {f C : Addr} {fd : FuncData} {ps : List Str} {sp : Sp} {E : XK} {o e : Expr} {pos : Pos} {ta tb : TE} {A1 : Around}
  {pins : List (Addr × Obj)} {σ : L2.St} {H : Hp} {s : Shared} {Q : VK}
theorem Sub.env0 (sb : Sub X n A1) (I : Inv X pins σ H s) : Env0 X.prog X.w X.K X.mg X.base A1 X.stack s H := by
  have q := I.env0
  exact ⟨by rw [sb.fr]; exact q.frames, q.mod, q.bs, q.bsz, q.funs, q.frf, q.hok, q.bare⟩
theorem run_sub {us : List Value} {vs : List V} (F : FnOk X.prog X.w X.K X.mg X.base CX k f fd ps sp) (sb : Sub X k A1) (hb : Binds X.K fd ps []) (hx : Passes CX X E) (I : Inv X pins σ H s) (r : Vals vs us) (h : sp vs H Q E) :
    wpAny (model X.prog X.w) A1 (call (.ref f) us) (EP X pins σ Q) X.xe s := by
  have hl : us.length = ps.length := by rw [← r.length]; exact F.len _ _ _ _ h
  have hb1 : BindsTo s fd ⟨us, []⟩ (ps.zip us) := by
    have z := hb s us I.kIn (by rw [List.append_nil]; exact hl)
    rw [List.append_nil] at z
    exact z
  refine wpAny_call (codeAny_mono (F.run A1 X.stack s H ⟨us, []⟩ us vs Q E sb.room (Sub.env0 sb I) hb1 r h) fun z s' hq => ?_)
  match z, hq with
  | .error e, hq => exact hx pins σ H s e s' I hq
  | .ok (.ret u), hq => exact I.after hq
  | .ok .next, hq => exact False.elim hq
  | .ok .brk, hq => exact False.elim hq
  | .ok .cont, hq => exact False.elim hq
theorem relR (a : Addr) : RelV (V.ref a) (Value.ref a) := rfl
theorem relB (b : Bool) : RelV (V.bl b) (Value.bool b) := rfl
theorem relI (i : Int) (t : Tok) : RelV (V.int i) (Value.int i t) := ⟨t, rfl⟩
/-- o[e] by the class's own def -/
def tGi (C : Addr) (sp : Sp) (E : XK) (ta tb : TE) : TE := fun σ H Q => ta σ H fun x H1 => tb σ H1 fun y H2 =>
  ∃ a dx fs, x = .ref a ∧ H2 a = some (.ins C dx fs) ∧ sp [.ref a, y] H2 Q E
theorem pe_gi (hd : Dn X.K C "__getitem__" f) (F : FnOk X.prog X.w X.K X.mg X.base CX k f fd ps sp) (hr : Room (k + 1) X.A) (hb : Binds X.K fd ps []) (hx : Passes CX X E) (ho : PE X o ta) (he : PE X e tb)
    (hs : ∀ v u, subscripted e true v u = runValue (.builtin "lifetime.subscript" ⟨[v, u], []⟩) := by intro _ _; with_unfolding_all rfl) :
    PE X (.Subscript o e pos) (tGi C sp E ta tb) := by
  refine ⟨fun pins s σ H Q I h => ?_⟩
  refine Subscript_ (binT ho he (R := fun x y H2 => ∃ a dx fs, x = .ref a ∧ H2 a = some (.ins C dx fs) ∧ sp [.ref a, y] H2 Q E) I h fun v u s2 x y H2 I2 rx ry ⟨a, dx, fs, ex, ha, q⟩ => ?_)
  subst ex
  obtain rfl : v = Value.ref a := rx
  obtain ⟨mA, O, rr, _, _, _⟩ := ins_get I2.hok ha
  obtain ⟨od, J, hl⟩ := O.look
  obtain ⟨m0, hF⟩ := I2.fr
  exact PySem.W.sub_K hF I2.ok.mod.kin J hd.at_ hd.fi hd.fn (run_sub F (Sub.in1 ⟨hr, rfl⟩) hb hx I2 (.cons (relR a) (.cons ry .nil)) q) (hs _ _)
/-- e in o, by the class's own def -/
def rIn (C : Addr) (sp : Sp) (E : XK) (neg : Bool) : R2 := fun x y H Q =>
  ∃ a dx fs, y = .ref a ∧ H a = some (.ins C dx fs) ∧ sp [.ref a, x] H (fun v H' => ∃ b, v = .bl b ∧ Q (.bl (if neg then !b else b)) H') E
theorem op_in_own (hd : Dn X.K C "__contains__" f) (F : FnOk X.prog X.w X.K X.mg X.base CX k f fd ps sp) (hr : Room k X.A) (hb : Binds X.K fd ps []) (hx : Passes CX X E) : OpR X (compareOp .In) (rIn C sp E false) := by
  intro pins s σ H x y v u Q I rx ry ⟨a, dx, fs, ey, ha, q⟩
  subst ey
  obtain rfl : u = Value.ref a := ry
  obtain ⟨mA, O, rr, _, _, _⟩ := ins_get I.hok ha
  obtain ⟨od, J, hl⟩ := O.look
  obtain ⟨m0, hF⟩ := I.fr
  refine PySem.W.in_K hF I.ok.mod.kin J hd.at_ hd.fn (thn (run_sub F ⟨hr, rfl⟩ hb hx I (.cons (relR a) (.cons rx .nil)) q) fun r s' ⟨z, H', I', rz, b, ez, q'⟩ => ?_)
  subst ez
  obtain rfl : r = Value.bool b := rz
  exact wpAny_truthy_bool ⟨_, _, I', relB b, q'⟩
/-- len(o) by the class's own def -/
def rLenO (C : Addr) (sp : Sp) (E : XK) : List V → Hp → VK → Prop := fun xs H Q =>
  ∃ a dx fs, xs = [.ref a] ∧ H a = some (.ins C dx fs) ∧ sp [.ref a] H (fun v H' => ∃ n : Nat, v = .int n ∧ n < 1000 ∧ Q (.int n) H') E
theorem call_len_own (hd : Dn X.K C "__len__" f) (F : FnOk X.prog X.w X.K X.mg X.base CX k f fd ps sp) (hr : Room (k + 1) X.A) (hb : Binds X.K fd ps []) (hx : Passes CX X E) : CallR X (.builtin "len") (rLenO C sp E) := by
  intro pins s σ H xs us Q I rv ⟨a, dx, fs, ex, ha, q⟩
  subst ex
  obtain ⟨u, rfl, ru⟩ := rv.one
  obtain rfl : u = Value.ref a := ru
  obtain ⟨mA, O, rr, _, _, _⟩ := ins_get I.hok ha
  obtain ⟨od, J, hl⟩ := O.look
  obtain ⟨m0, hF⟩ := I.fr
  refine PySem.W.len_K hF I.ok.mod.kin J hd.at_ hd.fn (thn (run_sub F (Sub.in1 ⟨hr, rfl⟩) hb hx I (.cons (relR a) .nil) q) fun r s' ⟨z, H', I', rz, n, ez, hn, q'⟩ => ?_)
  subst ez
  obtain ⟨t, rfl⟩ := rz
  exact ⟨⟨by omega, by omega⟩, _, _, I'.tok _, relI _ _, q'⟩
end

/-! for x in o, o an instance whose __iter__ says: return iter(self.F), F a tuple -/
def itTup (t : Addr) (i : Nat) : Obj := { cls := .type "tuple_iterator", data := .fields #[.ref t, .int (i : Nat) 0] }
def ItT (t it : Addr) (i : Nat) : HO := .ext fun h => h.get? it = some (itTup t i)
def rIterT (K : PySem.W.Frag) (n : Nat) : List V → Hp → VK → Prop := fun xs H Q => ∃ (t : Addr) (zs : List V), xs = [.ref t] ∧ SqT K H t zs ∧ ∀ it, H it = Option.none → n ≤ it → Q (.ref it) (upd H it (ItT t it 0))
section
variable {X : Cx}
theorem call_iterT : CallR X (.builtin "iter") (rIterT X.K X.s_0.heap.objs.size) := by
  intro pins s σ H xs us Q I r ⟨t, zs, e, hq, q⟩
  subst e
  obtain ⟨u, rfl, ru⟩ := r.one
  obtain rfl : u = Value.ref t := ru
  obtain ⟨its, rv, pl, hz⟩ := I.tuple hq
  refine Calls.call_function_entry (by decide +kernel) (by decide +kernel) PySem.W.kdk_entry_iter (PySem.W.kdk_args_iter _) ?_
  unfold Builtin.«iter»
  refine wpAny_bind (m := someArgs "iter" 1 2 _) (wpAny_of_eq (a := [Value.ref t]) (by first | rfl | kernel_rfl!) ?_)
  show wpAny _ _ (pyIter (.ref t) >>= _) _ _ _
  refine wpAny_bind (wpAny_pyIter_tuple (show s.heap.IsTuple t its.toArray from pl) ?_)
  have g : (s.heap.push (itTup t 0)).get? s.heap.objs.size = some (itTup t 0) := Heap.get?_push_size _ rfl
  have ok : ObjOk X.prog X.w (upd H s.heap.objs.size (ItT t s.heap.objs.size 0)) (s.heap.push (itTup t 0)) s.heap.objs.size (ItT t s.heap.objs.size 0) := ⟨g, ⟨_, g⟩, fun _ _ q k => k _ q⟩
  exact wpAny_pure ⟨_, rfl, .ref s.heap.objs.size, _, I.laid (t' := s.toks) (fun b u e => Heap.get?_push_of_some _ e) (Nat.le_refl _) ok, relR _, q _ (I.hok.fresh (Nat.le_refl _)) I.sz⟩
end

/-- a promise that may speak of how many objects there are when the def is called -/
def FnIt (P : Program) (w : World) (K : PySem.W.Frag) (mg : Str → Option Value) (base : Heap) (k : Nat) (f : Addr) (fd : FuncData) (ps : List Str) (sp : Nat → List V → Hp → VK → Prop) : Prop :=
  ∀ (A : Around) (outer : List Env) (s : Shared) (H : Hp) (us : List Value) (vs : List V) (Q : VK), Room k A → Env0 P w K mg base A outer s H → BindsTo s fd ⟨us, []⟩ (ps.zip us) → vs.length = ps.length → Vals vs us →
    sp s.heap.objs.size vs H Q → codeAny (model P w) A (.call (.ref f) ⟨us, []⟩) (CR CX0 outer P w H s Q E0) s
section
variable {P : Program} {w : World} {K : PySem.W.Frag} {mg : Str → Option Value} {base : Heap}
theorem fnIt_of {x qual : Str} {st : Stmt} {f : Addr} {fd : FuncData} {N ps : List Str} {k : Nat} {sp : Nat → List V → Hp → VK → Prop} (F : Fun K x qual st f fd) (S : FnScope N ps (defScope st))
    (hbody : ∀ (cdv : Value) (A : Around) (outer : List Env) (s : Shared) (H : Hp) (vs : List V) (Q : VK), Room k (A.deeper (envOfC qual (defScope st) s.heap.objs.size f cdv)) → sp s.heap.objs.size vs H Q →
      ∃ t, PSs (cxOf CX0 P w K mg base N qual (defScope st) f cdv A outer s H E0).nox (defBody st) t ∧ t { nx := fun _ H' => Q .non H', rt := Q } (start N vs) H) : FnIt P w K mg base (k + 1) f fd ps sp := by
  obtain ⟨oc, od, kV, doc, pm, an, cdv, ct, osl, rfl, lk, hcd⟩ := F.ex
  intro A outer s H us vs Q hr e0 hb hl r hsp
  have kin : K.In s.heap := e0.mod.kin.keeps fun b o e => (e0.bs b o e).1
  have lim : s.heap.NoLimit := e0.mod.nolimit.keeps fun b o e => (e0.bs b o e).1
  have kinds : ∀ y ∈ ps.zip us, (defScope st).names.lookup y.1 = some .local ∨ ((defScope st).names.lookup y.1 = some .cell ∧ ((cellsFrom (s.heap.objs.size + 1) (defScope st).names []).lookup y.1).isSome = true) := by
    intro y hy
    cases S.par y.1 (List.of_mem_zip (a := y.1) (b := y.2) hy).1 with
    | inl q => exact .inl q
    | inr q => exact .inr ⟨q, PySem.W.cellsFrom_some _ _ _ (.inl q)⟩
  apply codeAny_call_function hr.depth (kin _ _ lk) rfl S.co S.gen rfl (PySem.W.codeRec_of kin hcd) (hb _ _ _ _ ?_)
  apply wpAny_newFunctionEnv_cells S.kind kinds
  intro env he s1 x
  subst he
  refine ⟨lim.keeps x.toInCall.keep, codeAny_func ?_⟩
  obtain ⟨t, ht, hq⟩ := hbody cdv A outer s H vs Q (hr.deeper _) hsp
  have I := inv_start (CX := CX0) (P := P) (w := w) (E := E0) (cd := cdv) (qual := qual) (f := f) (outer := outer) S hr.hd e0 hl r x
  refine wpAny_mono (ht.nox.run [] s1 (start N vs) H _ I hq) (fun fl s' hs => ?_) fun e s' hs => hs
  match fl, hs with
  | .ret u, ⟨v, σ', H', J, rv, q⟩ => exact ⟨v, H', J.os, J.bare, J.base, J.hok, rv, q⟩
  | .next, ⟨σ', H', J, q⟩ => exact ⟨V.non, H', J.os, J.bare, J.base, J.hok, rfl, q⟩
  | .brk, ⟨_, _, _, q⟩ => exact False.elim q
  | .cont, ⟨_, _, _, q⟩ => exact False.elim q
end
/-- what such an __iter__ promises -/
def spIter (K : PySem.W.Frag) (C : Addr) (fld : Str) : Nat → List V → Hp → VK → Prop := fun n vs H Q => ∃ a dx fs t zs, vs = [.ref a] ∧ H a = some (.ins C dx fs) ∧ fs.lookup fld = some (.ref t) ∧ SqT K H t zs ∧
  ∀ it, H it = Option.none → n ≤ it → Q (.ref it) (upd H it (ItT t it 0))
/-- x in o, for a loop: o's own tuple is walked -/
def iOwn (K : PySem.W.Frag) (C : Addr) (fld : Str) (to : TE) : TI := fun σ H R => to σ H fun x H1 => ∃ a dx fs t zs, x = .ref a ∧ H1 a = some (.ins C dx fs) ∧ fs.lookup fld = some (.ref t) ∧ SqT K H1 t zs ∧ R (Itt K t) H1
section
variable {X : Cx} {k : Nat} {f C : Addr} {fd : FuncData} {fld : Str} {tg o : Expr} {to : TE} {pins : List (Addr × Obj)} {σ : L2.St} {H : Hp} {s : Shared} {A1 : Around}
theorem run_iter {a t dx : Addr} {fs : List (Str × V)} {zs : List V} (F : FnIt X.prog X.w X.K X.mg X.base k f fd ["self"] (spIter X.K C fld)) (sb : Sub X k A1) (hb : Binds X.K fd ["self"] []) (I : Inv X pins σ H s)
    (ha : H a = some (.ins C dx fs)) (hf : fs.lookup fld = some (.ref t)) (ht : SqT X.K H t zs) {E : Value → Shared → Prop} :
    wpAny (model X.prog X.w) A1 (call (.ref f) [.ref a]) (fun u s' => ∃ it, u = .ref it ∧ s.heap.objs.size ≤ it ∧ H it = Option.none ∧ Inv X pins σ (upd H it (ItT t it 0)) s') E s := by
  have hb1 : BindsTo s fd ⟨[.ref a], []⟩ ((["self"] : List Str).zip [Value.ref a]) := by
    have z := hb s [.ref a] I.kIn rfl
    exact z
  refine wpAny_call (codeAny_mono (F A1 X.stack s H [.ref a] [.ref a] (fun v H' => ∃ it, v = .ref it ∧ s.heap.objs.size ≤ it ∧ H it = Option.none ∧ H' = upd H it (ItT t it 0)) sb.room (Sub.env0 sb I) hb1 rfl (.cons (relR a) .nil)
    ⟨a, dx, fs, t, zs, rfl, ha, hf, ht, fun it h0 hn => ⟨it, rfl, hn, h0, rfl⟩⟩) fun z s' hq => ?_)
  match z, hq with
  | .error e, hq => exact hq.elim
  | .ok (.ret u), hq =>
    obtain ⟨v, H', I', rv, it, ev, hn, h0, eH⟩ := I.after hq
    subst ev
    rw [eH] at I'
    obtain rfl : u = Value.ref it := rv
    exact ⟨it, rfl, hn, h0, I'⟩
  | .ok .next, hq => exact False.elim hq
  | .ok .brk, hq => exact False.elim hq
  | .ok .cont, hq => exact False.elim hq
theorem pi_own (hd : Dn X.K C "__iter__" f) (F : FnIt X.prog X.w X.K X.mg X.base k f fd ["self"] (spIter X.K C fld)) (hr : Room k X.A) (hb : Binds X.K fd ["self"] []) (ho : PE X o to) : PI X tg o (iOwn X.K C fld to) := by
  refine ⟨fun pins s σ H R I h => ?_⟩
  refine thn (ho.run pins s σ H _ I h) fun u s1 ⟨x, H1, I1, rx, a, dx, fs, t, zs, ex, ha, hf, ht, q⟩ => ?_
  subst ex
  obtain rfl : u = Value.ref a := rx
  obtain ⟨mA, O, rr, _, _, _⟩ := ins_get I1.hok ha
  obtain ⟨od, J, hl⟩ := O.look
  obtain ⟨m0, hF⟩ := I1.fr
  refine PySem.W.owit_iter hF I1.ok.mod.kin J hd.at_ hd.fn (thn (run_iter F ⟨hr, rfl⟩ hb I1 ha hf ht) fun r s2 ⟨it, er, hn, h0, I2⟩ => ?_)
  subst er
  have e2 : upd H1 it (ItT t it 0) it = some (ItT t it 0) := upd_same
  have g : s2.heap.get? it = some (itTup t 0) := (I2.hok it _ e2).1
  have hT : s2.TypeIs (.ref it) "tuple_iterator" := ⟨_, g, rfl⟩
  have hfp := ItX.inv_fp I2 e2 (Nat.le_trans I1.sz hn)
  have I3 := ItX.inv_drop I2 e2
  rw [ItX.dropH_upd h0] at I3 hfp
  unfold PySem.W.OwitIt
  refine wpAny_specialOf (name := Str.ofString "__next__") hT PySem.F.slot_tuple_iterator_next.lookup ?_
  refine ⟨it, [it], _, _, H1, rfl, I3, turn_tuple t it, ⟨_, g, rfl, rfl⟩, fun b hb => ?_, q⟩
  rw [List.mem_singleton.mp hb]
  exact hfp
end
/-! C.m(e, .., k = v, ..), m a classmethod; cls(e, .., k = v, ..), cls a local name that holds the class -/
def tCMethK (C : Addr) (n m : Nat) (sp : Sp) (gV : List V → List V → List V) (E : XK) (ta : TE) (t tk : TA) : TE := fun σ H Q => ta σ H fun x H1 => x = .ref C ∧ t σ H1 fun vs H2 => tk σ H2 fun zs H3 => (.ref C :: vs).length = n ∧ zs.length = m ∧ sp (gV (.ref C :: vs) zs) H3 Q E
def tMakeLK (i : Nat) (C : Addr) (n m : Nat) (sp : Sp) (gV : List V → List V → List V) (E : XK) (t tk : TA) : TE := fun σ H Q => σ[i]? = some (some (.ref C)) ∧ tMakeK C n m sp gV E t tk σ H Q
section
variable {X : Cx} {CX : CXT} {k n i : Nat} {C p g f : Addr} {mc : Value} {sp : Sp} {E : XK} {o e : Expr} {es : List Expr} {kws : List Keyword} {m x : Str} {pos apos xpos : Pos} {ta : TE} {t tk : TA} {pl : Sem Bool} {fd : FuncData} {ps ks : List Str}
  {gv : List Value → List Value → List Value} {gV : List V → List V → List V}
theorem pe_cmethK (he : PE X o ta) (r : ClX.CRead X.K C mc) (c : ClX.CMet X.K C mc m p g) (F : FnOk X.prog X.w X.K X.mg X.base CX k g fd ps sp) (hr : Room k X.A) (hb : KBn X.K fd ps n ks gv gV) (hx : Passes CX X E) (ha : PA X (e :: es) t) (hkw : PK X kws tk)
    (hall : (backToKw pos (keywordEach kws X.env)).all (·.1.isSome) = true := by rfl) (hks : (backToKw pos (keywordEach kws X.env)).filterMap (·.1) = ks := by rfl)
    (hst : starEach (e :: es) X.env = (false, eval e X.env) :: starEach es X.env := by rfl) (hpl : ((backTo pos (starEach (e :: es) X.env)).any (·.1) || (backToKw pos (keywordEach kws X.env)).any (·.1.isNone)) = false := by rfl)
    (ht : eval (.Call (.Attribute o m apos) (e :: es) kws pos) X.env = (do
      let ov ← eval o X.env
      standAt apos.atName
      let (f, first) ← holding [ov] (getMethod ov m pl)
      callWith pos f first (backTo pos (starEach (e :: es) X.env)) (backToKw pos (keywordEach kws X.env))) := by rfl) :
    PE X (.Call (.Attribute o m apos) (e :: es) kws pos) (tCMethK C n ks.length sp gV E ta t tk) := by
  refine ⟨fun pins s σ H Q I h => ?_⟩
  refine PySem.W.methodCall_KW (pl := pl) (thn (he.run pins s σ H _ I h) fun u s1 ⟨x, H1, I1, rx, ex, q⟩ => ?_) ht
  subst ex
  obtain rfl : u = Value.ref C := rx
  refine ClX.getmethcm_ok I1 r c fun s2 I2 => ?_
  refine PySem.W.callWith_of (P := PySem.W.MethP X.K s1.heap.objs.size g (.ref C)) hpl (PySem.W.keeps_M c.fi) (evalArgs_kw2 hall (thn (ha.run pos _ s2 σ H1 _ I2 q) fun us s3 ⟨vs, H2, I3, rv, q2⟩ => ?_) hst)
  refine thn (hkw.run pos _ s3 σ H2 _ I3 q2) fun ws s4 ⟨zs, H3, I4, rz, l1, l2, q3⟩ => ⟨⟨ClX.pin_at I4, I4.kIn⟩, ?_⟩
  rw [hks]
  have r2 : Vals (V.ref C :: vs) (Value.ref C :: us) := .cons (relR C) rv
  have n1 : (Value.ref C :: us).length = n := r2.length.symm.trans l1
  have I5 := ClX.unpin I4
  refine wpAny_call (PySem.W.method_call (ClX.pin_at I4) (codeAny_mono (F.run X.A X.stack s4 H3 ⟨Value.ref C :: us, ks.zip ws⟩ _ _ Q E hr I5.env0 (hb.to _ (Value.ref C :: us) ws I5.kIn n1 (rz.length.symm.trans l2)) (hb.rel r2 rz) q3) fun z s' hq => ?_))
  match z, hq with
  | .error e, hq => exact hx pins σ H3 s4 e s' I5 hq
  | .ok (.ret u), hq => exact I5.after hq
  | .ok .next, hq => exact False.elim hq
  | .ok .brk, hq => exact False.elim hq
  | .ok .cont, hq => exact False.elim hq
theorem pe_makeLK (M : Mk X.K C f) (F : FnOk X.prog X.w X.K X.mg X.base CX k f fd ps sp) (hr : Room (k + 1) X.A) (hb : KBn X.K fd ps (n + 1) ks gv gV) (hx : Passes CX X E) (ha : PA X (e :: es) t) (hkw : PK X kws tk)
    (hN : X.N[i]? = some x) (hv : Vis X.env.scope x) (hd : (x == ("__debug__" : Str)) = false := by decide) (hcd : (x == ("__classdict__" : Str)) = false := by decide)
    (hall : (backToKw pos (keywordEach kws X.env)).all (·.1.isSome) = true := by rfl) (hks : (backToKw pos (keywordEach kws X.env)).filterMap (·.1) = ks := by rfl)
    (hst : starEach (e :: es) X.env = (false, eval e X.env) :: starEach es X.env := by rfl) (hpl : ((backTo pos (starEach (e :: es) X.env)).any (·.1) || (backToKw pos (keywordEach kws X.env)).any (·.1.isNone)) = false := by rfl) :
    PE X (.Call (.Name x xpos) (e :: es) kws pos) (tMakeLK i C n ks.length sp gV E t tk) := by
  refine ⟨fun pins s σ H Q I ⟨h0, h⟩ => ?_⟩
  refine wpAny_Call_Name_kw (thn ((pe_var (pos := xpos) (i := i) hN hv hd hcd).run pins s σ H (fun v H1 => v = .ref C ∧ H1 = H) I ⟨.ref C, h0, rfl, rfl⟩) fun u s1 ⟨v, H1, I1, r1, ev, eH⟩ => ?_)
  subst ev
  rw [eH] at I1
  obtain rfl : u = Value.ref C := r1
  refine PySem.W.callWith_KW (h₀ := X.base) I1.ok.mod.kin M.kp hall (thn (ha.run pos pins s1 σ H _ I1 h) fun us s2 ⟨vs, H2, I2, r, q⟩ => ?_) hpl hst
  refine thn (hkw.run pos pins s2 σ H2 _ I2 q) fun ws s3 ⟨zs, H3, I3, rz, l1, l2, q2⟩ => ⟨I3.kIn, ?_⟩
  rw [hks]
  exact run_makeK M F hr hb hx I3 r rz l1 l2 q2
end

/-! heaps that only grow -/
theorem Same.up {H : Hp} {p : Addr} {o : HO} (h : H p = Option.none) : Same H (upd H p o) := fun b u e => by
  rw [upd_ne (ne_of_none e h)]
  exact e
/-- a list under way at D, which was not there in H1 -/
structure Acc (H1 : Hp) (D : Addr) (acc : List V) (H : Hp) : Prop where
  s : Same H1 H
  n : H1 D = Option.none
  a : H D = some (.lst acc)
theorem Acc.start {H1 : Hp} {D : Addr} (n : H1 D = Option.none) : Acc H1 D [] (upd H1 D (.lst [])) := ⟨Same.up n, n, upd_same⟩
theorem Acc.same {H1 H H' : Hp} {D : Addr} {acc : List V} (h : Acc H1 D acc H) (s : Same H H') : Acc H1 D acc H' := ⟨h.s.trans s, h.n, s _ _ h.a⟩
theorem Acc.push {H1 H : Hp} {D : Addr} {acc zs : List V} (h : Acc H1 D acc H) : Acc H1 D zs (upd H D (.lst zs)) :=
  ⟨fun b o e => by rw [upd_ne (ne_of_none e h.n)]; exact h.s b o e, h.n, upd_same⟩
theorem Same.none' {H H' : Hp} (s : Same H H') {p : Addr} (h : H' p = Option.none) : H p = Option.none := s.free h
theorem Same.of_upd {H H' : Hp} {p : Addr} {o : HO} (h : H p = Option.none) (s : Same (upd H p o) H') : Same H H' := (Same.up h).trans s
/-- a list of ints as values -/
theorem ints_at {ns : List Int} {i : Nat} {x : V} (h : (ns.map V.int)[i]? = some x) : ∃ (hi : i < ns.length), x = .int ns[i] := by
  rw [List.getElem?_map] at h
  cases e : ns[i]? with
  | none => rw [e] at h; cases h
  | some u =>
    rw [e] at h
    obtain ⟨hi, rfl⟩ := List.getElem?_eq_some_iff.mp e
    exact ⟨hi, (Option.some.inj h).symm⟩

/-! comprehensions that pick -/
section
variable {α : Type} {H1 H : Hp} {D : Addr} {ks : List α} {f : α → Option V} {i : Nat} {c : α → V}
def PickI (H1 : Hp) (D : Addr) (ks : List α) (f : α → Option V) : Nat → Hp → Prop := fun i H => Acc H1 D ((ks.take i).filterMap f) H
theorem pick_start (n : H1 D = Option.none) : PickI H1 D ks f 0 (upd H1 D (.lst [])) := Acc.start n
theorem take_fm (hi : i < ks.length) : (ks.take (i + 1)).filterMap f = (ks.take i).filterMap f ++ (f ks[i]).toList := by
  rw [List.take_succ_eq_append_getElem hi, List.filterMap_append]
  cases h : f ks[i] <;> simp [h]
theorem pick_yes {H' : Hp} {y : V} (hi : i < ks.length) (hl : ks.length ≤ 1000) (e : f ks[i] = some y) (s : Same H H') (h : PickI H1 D ks f i H) :
    ∃ acc, H' D = some (.lst acc) ∧ acc.length < sizeLine ∧ PickI H1 D ks f (i + 1) (upd H' D (.lst (acc ++ [y]))) := by
  have h2 := Acc.same h s
  refine ⟨_, h2.a, small1000 ?_, ?_⟩
  · exact Nat.le_trans (Nat.le_trans (List.length_filterMap_le _ _) (List.length_take_le _ _)) (by omega)
  · unfold PickI
    rw [take_fm hi, e]
    exact h2.push
theorem pick_no {H' : Hp} (hi : i < ks.length) (e : f ks[i] = none) (s : Same H H') (h : PickI H1 D ks f i H) : PickI H1 D ks f (i + 1) H' := by
  unfold PickI
  rw [take_fm hi, e, Option.toList_none, List.append_nil]
  exact Acc.same h s
theorem pick_end {m : Nat} (hm : m = ks.length) (h : PickI H1 D ks f m H) : Acc H1 D (ks.filterMap f) H := by
  subst hm
  unfold PickI at h
  rw [List.take_length] at h
  exact h
theorem map_at {x : V} (h : (ks.map c)[i]? = some x) : ∃ hi : i < ks.length, x = c ks[i] := by
  rw [List.getElem?_map] at h
  cases e : ks[i]? with
  | none => rw [e] at h; cases h
  | some u =>
    rw [e] at h
    obtain ⟨hi, rfl⟩ := List.getElem?_eq_some_iff.mp e
    exact ⟨hi, (Option.some.inj h).symm⟩
end
end Tw

set_option Elab.async false
set_option linter.all false
set_option maxRecDepth 100000
set_option maxHeartbeats 2000000
namespace Tw
open PySem PySem.Spec PyProof.Rows L2
open PySem.W (InstAt looks_findIn looks_subIn ifBound_K cmp_K)
/-- a class with an own __eq__ and the usual != -/
structure EqC (K : PySem.W.Frag) (C f : Addr) : Prop where
  eq : PySem.W.findIn K (.ref C) "__eq__" = some (some (.ref f))
  fn : PySem.W.isFn K (.ref f) = true
  ne : PySem.W.findIn K (.ref C) "__ne__" = some (some (.builtin "object.__ne__"))
  ob : PySem.W.subIn K (.ref C) (.type "object") = some true
  ni : PySem.W.subIn K (.type "int") (.ref C) = some false
  nt : PySem.W.subIn K (.type "tuple") (.ref C) = some false

section
variable {prog : Program} {w : World} {A : Around} {E : Value → Shared → Prop} {s : Shared} {K : PySem.W.Frag} {x C L f : Addr} {h₀ : Heap} {m : Str → Option Value} {ox : Obj} {od : Option Obj} {b tb : Value}
theorem ne_entry {Q : PySem.Fin → Shared → Prop} (hu : A.units < cLine) (X : K.In s.heap) (I : InstAt s.heap x ox C od) (c : EqC K C f)
    (h : wpAny (model prog w) A (call (.ref f) [.ref x, b]) (fun v s' => ∃ r, v = .bool r ∧ Q (.done (.ret (.bool (!r)))) s') E s) :
    wpAny (model prog w) A (Builtin.«object.__ne__» ⟨[.ref x, b], []⟩) Q E s := by
  unfold Builtin.«object.__ne__»
  refine wpAny_bind (wpAny_of_eq (a := (Value.ref x, [b])) (by first | rfl | kernel_rfl!) ?_)
  refine wpAny_bind (wpAny_cRoomFor hu ?_)
  refine wpAny_bind (m := callSpecialIfBound? (.ref x) (Str.ofString "__eq__") [b]) (ifBound_K X I c.eq c.fn (wpAny_mono h (fun v s' hv => ?_) fun _ _ e => e))
  obtain ⟨r, e, q⟩ := hv
  subst e
  refine wpAny_bind (m := truthy (.bool r)) (wpAny_truthy_bool ?_)
  exact wpAny_pure q
theorem ne_call {Q : Value → Shared → Prop} (hu : A.in1.units < cLine) (X : K.In s.heap) (I : InstAt s.heap x ox C od) (c : EqC K C f)
    (h : wpAny (model prog w) A.in1 (call (.ref f) [.ref x, b]) (fun v s' => ∃ r, v = .bool r ∧ Q (.bool (!r)) s') E s) :
    wpAny (model prog w) A (call (.builtin "object.__ne__") [.ref x, b]) Q E s := by
  have t2 : PySem.W.Looks (model prog w) s.heap (isInstance (.ref x) (.type "object")) true := I.type.andThen (looks_subIn X c.ob)
  refine wpAny_call (codeAny_call_builtin F.cmp_object.ne.plain F.cmpEntry_ne (PySem.W.check_slot F.cmpKind_ne F.cmpSplit_ne t2 (F.cmpArgs_ne _ _) (ne_entry hu X I c (wpAny_mono h (fun v s' hv => ?_) fun _ _ e => e))))
  obtain ⟨r, e, q⟩ := hv
  exact ⟨r, e, q⟩
theorem ne_bound {Q : Option Value → Shared → Prop} (hu : A.in1.units < cLine) (X : K.In s.heap) (I : InstAt s.heap x ox C od) (c : EqC K C f)
    (h : wpAny (model prog w) A.in1 (call (.ref f) [.ref x, b]) (fun v s' => ∃ r, v = .bool r ∧ Q (some (.bool (!r))) s') E s) :
    wpAny (model prog w) A (callSpecialIfBound? (.ref x) "__ne__" [b]) Q E s := by
  simp only [callSpecialIfBound?, bindSpecialIfBound?]
  refine wpAny_holding (wpAny_bind (wpAny_bind (wpAny_bind (I.type.here ((looks_findIn X c.ne).here ?_)))))
  refine wpAny_bind (wpAny_askSetting (wpAny_ite ?_))
  have fin : wpAny (model prog w) A (call (.builtin "object.__ne__") ([.ref x] ++ [b]) >>= fun v => pure (some v)) Q E s :=
    wpAny_bind (ne_call hu X I c (wpAny_mono h (fun v s' ⟨r, e, q⟩ => ⟨r, e, wpAny_pure q⟩) fun _ _ e => e))
  have bd := F.cmp_object.ne.bind (.ref x)
  split
  · refine wpAny_bind ?_
    rw [bd]
    exact wpAny_pure (wpAny_pure (by exact fin))
  · refine wpAny_tryCatch (wpAny_bind ?_)
    rw [bd]
    exact wpAny_pure (wpAny_pure (by exact fin))
theorem ne_K {Q : Value → Shared → Prop} (hu : A.in1.units < cLine) (hu0 : A.units < cLine) (F : Fr h₀ L s.heap m) (X₀ : K.In h₀) (I : InstAt s.heap x ox C od) (hb : PySem.W.Looks (model prog w) s.heap (typeOf b) tb) (hn : PySem.W.notFirst K C tb = true) (c : EqC K C f)
    (h : wpAny (model prog w) A.in1 (call (.ref f) [.ref x, b]) (fun v s' => ∃ r, v = .bool r ∧ Q (.bool (!r)) s') E s) : wpAny (model prog w) A (richCompare .NotEq (.ref x) b) Q E s := by
  have X := X₀.keeps F.keep
  have one : wpAny (model prog w) A (tryCompare (.ref x) (cmpInfo .NotEq).2.1 b) (fun r s' => ∃ v, r = some v ∧ Q v s') E s := by
    unfold tryCompare
    refine wpAny_bind (ne_bound hu X I c (wpAny_mono h (fun v s' ⟨r, e, q⟩ => ⟨r, e, ?_⟩) fun _ _ e => e))
    exact wpAny_pure ⟨_, rfl, q⟩
  have two : ∀ r s', (∃ v, r = some v ∧ Q v s') → ∃ v, r = some v ∧ Q v s' := fun _ _ z => z
  unfold richCompare
  simp only [oneThing_ref]
  refine wpAny_holding (wpAny_bind (wpAny_cRoomFor hu0 ?_))
  refine wpAny_bind (I.type.here (wpAny_bind (hb.here ?_)))
  split
  · rename_i q
    have e : PySem.W.subIn K tb (.ref C) = some false := by
      rcases Bool.or_eq_true_iff.mp hn with e | e
      · rw [beq_iff_eq.mp e] at q; simp at q
      · exact beq_iff_eq.mp e
    refine wpAny_bind ((looks_subIn X e).here ?_)
    simp only [Bool.false_eq_true, if_false]
    refine wpAny_bind (wpAny_mono one (fun r s' ⟨v, ev, hq⟩ => ?_) fun _ _ e => e)
    subst ev
    exact wpAny_pure hq
  · refine wpAny_bind (wpAny_pure ?_)
    simp only [Bool.false_eq_true, if_false]
    refine wpAny_bind (wpAny_mono one (fun r s' ⟨v, ev, hq⟩ => ?_) fun _ _ e => e)
    subst ev
    exact wpAny_pure hq
end
/-! as rules -/
section
variable {X : Cx} {CX : CXT} {k : Nat} {f C : Addr} {fd : FuncData} {ps : List Str} {sp : Sp} {E : XK}
/-- the other operand: an instance of the same class, an int, a tuple -/
inductive Oth (H : Hp) (C : Addr) : V → Prop where
  | ins {a dx : Addr} {fs : List (Str × V)} (h : H a = some (.ins C dx fs)) : Oth H C (.ref a)
  | int (i : Int) : Oth H C (.int i)
  | tup {a : Addr} {xs : List V} (h : H a = some (.tup xs)) : Oth H C (.ref a)
def rEqO (C : Addr) (sp : Sp) (E : XK) (neg : Bool) : R2 := fun x y H Q =>
  ∃ a dx fs, x = .ref a ∧ H a = some (.ins C dx fs) ∧ Oth H C y ∧ sp [.ref a, y] H (fun v H' => ∃ r, v = .bl r ∧ Q (.bl (if neg then !r else r)) H') E
theorem oth_type {pins : List (Addr × Obj)} {σ : L2.St} {H : Hp} {s : Shared} {y : V} {u : Value} (I : Inv X pins σ H s) (ry : RelV y u) (c : EqC X.K C f) (o : Oth H C y) :
    ∃ tb, PySem.W.Looks (model X.prog X.w) s.heap (typeOf u) tb ∧ PySem.W.notFirst X.K C tb = true := by
  cases o with
  | @ins a dx fs h =>
    obtain rfl : u = Value.ref a := ry
    obtain ⟨mA, O, rr, _, _, _⟩ := ins_get I.hok h
    obtain ⟨od, J, hl⟩ := O.look
    exact ⟨_, J.type, by unfold PySem.W.notFirst; simp⟩
  | int i =>
    obtain ⟨t, rfl⟩ := ry
    exact ⟨.type "int", .now, by unfold PySem.W.notFirst; rw [c.ni]; simp⟩
  | @tup a xs h =>
    obtain rfl : u = Value.ref a := ry
    obtain ⟨_, _, _, ob, h1, h2, _⟩ := (show ObjOk X.prog X.w H s.heap a (.tup xs) from I.hok a _ h)
    exact ⟨.type "tuple", h2 ▸ (PySem.W.Looks.ld h1).andThen .now, by unfold PySem.W.notFirst; rw [c.nt]; simp⟩
theorem op_eq_own (c : EqC X.K C f) (F : FnOk X.prog X.w X.K X.mg X.base CX k f fd ps sp) (hr : Room k X.A) (hb : Binds X.K fd ps []) (hx : Passes CX X E) : OpR X (compareOp .Eq) (rEqO C sp E false) := by
  intro pins s σ H x y v u Q I rx ry ⟨a, dx, fs, ex, ha, o, q⟩
  subst ex
  obtain rfl : v = Value.ref a := rx
  obtain ⟨mA, O, rr, _, _, _⟩ := ins_get I.hok ha
  obtain ⟨od, J, hl⟩ := O.look
  obtain ⟨m0, hF⟩ := I.fr
  obtain ⟨tb, lk, nf⟩ := oth_type I ry c o
  show wpAny _ _ (richCompare .Eq (.ref a) u) _ _ _
  refine cmp_K hr.units0 hF I.ok.mod.kin J lk nf c.eq c.fn (thn (run_sub F ⟨hr, rfl⟩ hb hx I (.cons (relR a) (.cons ry .nil)) q) fun r s' ⟨z, H', I', rz, b, ez, q'⟩ => ?_)
  subst ez
  obtain rfl : r = Value.bool b := rz
  exact ⟨_, H', I', relB b, q'⟩
theorem op_ne_own (c : EqC X.K C f) (F : FnOk X.prog X.w X.K X.mg X.base CX k f fd ps sp) (hr : Room (k + 1) X.A) (hb : Binds X.K fd ps []) (hx : Passes CX X E) : OpR X (compareOp .NotEq) (rEqO C sp E true) := by
  intro pins s σ H x y v u Q I rx ry ⟨a, dx, fs, ex, ha, o, q⟩
  subst ex
  obtain rfl : v = Value.ref a := rx
  obtain ⟨mA, O, rr, _, _, _⟩ := ins_get I.hok ha
  obtain ⟨od, J, hl⟩ := O.look
  obtain ⟨m0, hF⟩ := I.fr
  obtain ⟨tb, lk, nf⟩ := oth_type I ry c o
  show wpAny _ _ (richCompare .NotEq (.ref a) u) _ _ _
  refine ne_K (Room.units0 hr.in1) hr.units0 hF I.ok.mod.kin J lk nf c (thn (run_sub F (Sub.in1 ⟨hr, rfl⟩) hb hx I (.cons (relR a) (.cons ry .nil)) q) fun r s' ⟨z, H', I', rz, b, ez, q'⟩ => ?_)
  subst ez
  exact ⟨b, rz, _, H', I', relB (!b), q'⟩
end
end Tw

set_option Elab.async false
set_option linter.all false
set_option maxRecDepth 100000
set_option maxHeartbeats 4000000
namespace Tw
open PySem PySem.Spec PyProof.Rows L2
/-! enumerate(t), t a tuple -/
def enO (s : Shared) : Obj := { cls := .type "enumerate", data := .fields #[.none, .bool false, .ref s.heap.objs.size, rawInt 0, .none, .none] }
theorem enum_newT (t : Addr) (items : Array Value) :
    Meets (Builtin.«enumerate.__new__» ⟨[.type "enumerate", .ref t], []⟩) (fun _ R s => s.heap.IsTuple t items ∧
      R (.ok (.ret (.ref (s.heap.push (itTup t 0)).objs.size))) { s with heap := (s.heap.push (itTup t 0)).push (enO s) }) :=
  .of_wp fun prog w A R s h => by
    obtain ⟨hp, g, d, tk, os⟩ := s
    obtain ⟨h1, h⟩ := h
    have hsub := sub_enumerate
    have q1 : ∀ {A' : Around} {E : Value → Shared → Prop} {Q : Value → Shared → Prop}, Q (.ref hp.objs.size) ⟨hp.push (itTup t 0), g, d, tk, os⟩ → wpAny (model prog w) A' (pyIter (.ref t)) Q E ⟨hp, g, d, tk, os⟩ :=
      fun q => wpAny_pyIter_tuple (s := ⟨hp, g, d, tk, os⟩) h1 q
    wp_walk using q1
    refine wpAny_stack_any fun st => wpAny_pure ?_
    split
    · rename_i c _ _ _ _ _
      cases (c == Value.type "enumerate")
      · wp_walk using q1
        exact ⟨_, rfl, h⟩
      · wp_walk using q1
        exact ⟨_, rfl, h⟩
    · wp_walk using q1
      exact ⟨_, rfl, h⟩
section
variable {prog : Program} {w : World} {A : Around} {E : Value → Shared → Prop} {s : Shared}
theorem call_enumT {t : Addr} {items : Array Value} {Q : Value → Shared → Prop} (hT : s.heap.IsTuple t items)
    (h : ∀ h', IsEnum h' (s.heap.objs.size + 1) s.heap.objs.size 0 .none → h'.IsTupleIter s.heap.objs.size t 0 → h'.objs.size = s.heap.objs.size + 2 →
      (∀ b o, s.heap.get? b = some o → h'.get? b = some o) → Q (.ref (s.heap.objs.size + 1)) { s with heap := h' }) :
    wpAny (model prog w) A (call (.type "enumerate") [.ref t]) Q E s := by
  refine callType_new F.called_enumerate (by decide) (F.typeCall_enumerate_1 _) (F.newCall_enumerate_1 _) (fun obj => F.args_object_init_2 obj _) F.entry_enumerate_new (enum_newT t items) ⟨hT, ?_⟩
  have hz : (s.heap.push (itTup t 0)).objs.size = s.heap.objs.size + 1 := Heap.size_push ..
  show _ ∧ _
  rw [hz]
  have he : IsEnum ((s.heap.push (itTup t 0)).push (enO s)) (s.heap.objs.size + 1) s.heap.objs.size 0 .none := by
    have q := Heap.get?_push_size (s.heap.push (itTup t 0)) (o := enO s) rfl
    rw [hz] at q
    exact q
  have hi : ((s.heap.push (itTup t 0)).push (enO s)).IsTupleIter s.heap.objs.size t 0 := ⟨_, Heap.get?_push_of_some _ (Heap.get?_push_size _ rfl), rfl, rfl⟩
  exact ⟨⟨_, he, rfl⟩, h _ he hi (by rw [Heap.size_push, hz]) fun b o x => Heap.get?_push_of_some _ (Heap.get?_push_of_some _ x)⟩
end
def IteT (K : PySem.W.Frag) (a : Addr) : It :=
  ⟨fun i H => ∃ (xs : List V) (x : V), SqT K H a xs ∧ xs[i]? = some x, fun i H v H' => ∃ T x, v = .ref T ∧ H T = Option.none ∧ H' = upd H T (.tup [.int (i : Nat), x]) ∧ ∀ xs, SqT K H a xs → xs[i]? = some x, fun i H => ∃ xs : List V, SqT K H a xs ∧ xs.length = i⟩
theorem turn_enumT {P : Program} {w : World} {K : PySem.W.Frag} {elts : List Expr} {kk : Nat} {tpos : Pos} (a e it : Addr) :
    Turn P w K (.Tuple elts kk tpos) (IteT K a) [e, it] e (fun i h => (∃ old, IsEnum h e it ((i : Nat) : Int) old) ∧ h.IsTupleIter it a i ∧ e ≠ it) where
  mem := by simp
  obj := fun i h st b hb => by
    obtain ⟨⟨old, he⟩, ⟨o, ho, hc, hd⟩, _⟩ := st
    rcases (show b = e ∨ b = it by simpa using hb) with rfl | rfl
    · exact ⟨_, he, fun v q => nomatch q⟩
    · exact ⟨o, ho, fun v q => by rw [hd] at q; cases q⟩
  keep := fun i h h' st k => let ⟨⟨old, he⟩, hi, hne⟩ := st; ⟨⟨old, k e (by simp) _ he⟩, hi.at fun o q => k it (by simp) o q, hne⟩
  item := by
    intro X hP hw hK hc i pins s σ H E I hf st hg
    subst hP hw hK
    obtain ⟨⟨old, he⟩, hit, hne⟩ := st
    obtain ⟨xs, x, hq, hx⟩ := hg
    obtain ⟨its, rv, p, hz⟩ := I.tuple hq
    have hil : i < xs.length := (List.getElem?_eq_some_iff.mp hx).1
    have hlen := rv.length
    have hel : e < s.heap.objs.size := Heap.lt_size he
    have hitl : it < s.heap.objs.size := by obtain ⟨_, q, _⟩ := hit; exact Heap.lt_size q
    have hae : e ≠ a := fun z => by
      obtain ⟨oo, h1, h2, _⟩ := p
      rw [← z, he] at h1
      cases h1
      injection h2 with q
      exact absurd q (by decide)
    have hia : it ≠ a := fun z => by
      obtain ⟨oo, h1, h2, _⟩ := p
      obtain ⟨o2, h3, h4, _⟩ := hit
      rw [← z, h3] at h1
      cases h1
      rw [h4] at h2
      injection h2 with q
      exact absurd q (by decide)
    have D := Draws.tuple (prog := X.prog) (w := X.w) (A := X.A.in1) (I.ok.hd hc) it a hia.symm its.toArray
    refine wpAny_pyNext_enum_itemD D he ⟨hit, p⟩ (by rw [List.size_toArray]; omega) hne (by simp [hne, hae]) fun u h' tk hu ho hst hT hsz hk => ?_
    obtain ⟨u2, hu2, ru⟩ := rv.get hx
    obtain rfl : u = u2 := by
      rw [List.getElem?_toArray] at hu
      exact Option.some.inj (hu.symm.trans hu2)
    refine ⟨_, rfl, wpAny_letOwnedTupleGo_enum (s := { s with heap := h', toks := tk + 1 }) ho fun h'' he' sb => ?_⟩
    have hT2 : h''.get? s.heap.objs.size = some { cls := .type "tuple", data := .seq #[.int i tk, u] } := (sb.2 _ (Nat.ne_of_gt hel)).trans hT
    have new : ObjOk X.prog X.w (upd H s.heap.objs.size (.tup [.int (i : Nat), x])) h'' s.heap.objs.size (.tup [.int (i : Nat), x]) :=
      ⟨by show 2 ≤ sizeLine; decide, [.int i tk, u], .cons ⟨_, rfl⟩ (.cons ru .nil), ⟨_, hT2, rfl, _, rfl⟩⟩
    have I1 : Inv X pins σ (upd H s.heap.objs.size (.tup [.int (i : Nat), x])) { s with heap := h'', toks := tk + 1 } :=
      I.turnedNew (ch := [e, it]) (fun b ob hb q => (sb.2 b (fun z => hb (by simp [z]))).trans (hk b ob (fun z => hb (by simp [z])) (fun z => hb (by simp [z])) q)) hf (Nat.le_refl _) new
    refine ⟨.ref s.heap.objs.size, _, I1, rfl, ⟨_, x, rfl, I.hok.fresh (Nat.le_refl _), rfl, fun ys hy => by rw [I.tuple_inj hy hq]; exact hx⟩, ⟨⟨u, ?_⟩, hst.1.at fun o q => (sb.2 it (Ne.symm hne)).trans q, hne⟩, fun b hb => ?_⟩
    · rw [show ((i + 1 : Nat) : Int) = (i : Int) + 1 by omega]
      exact he'
    · have hb' : b < s.heap.objs.size := by
        rcases (show b = e ∨ b = it by simpa using hb) with rfl | rfl
        · exact hel
        · exact hitl
      rw [upd_ne (Nat.ne_of_lt hb')]
      exact (hf b hb).1
  done := by
    intro X hP hw hK hc i pins s σ H E I hf st hg
    subst hP hw hK
    obtain ⟨⟨old, he⟩, hit, hne⟩ := st
    obtain ⟨xs, hq, hx⟩ := hg
    obtain ⟨its, rv, p, hz⟩ := I.tuple hq
    obtain ⟨f0, f1, f2, f3, f4, f5⟩ := hf it (by simp)
    have hlen := rv.length
    have hae : e ≠ a := fun z => by
      obtain ⟨oo, h1, h2, _⟩ := p
      rw [← z, he] at h1
      cases h1
      injection h2 with q
      exact absurd q (by decide)
    have hia : it ≠ a := fun z => by
      obtain ⟨oo, h1, h2, _⟩ := p
      obtain ⟨o2, h3, h4, _⟩ := hit
      rw [← z, h3] at h1
      cases h1
      rw [h4] at h2
      injection h2 with q
      exact absurd q (by decide)
    have D := Draws.tuple (prog := X.prog) (w := X.w) (A := X.A.in1) (I.ok.hd hc) it a hia.symm its.toArray
    have en : its.toArray.size = i := by rw [List.size_toArray]; omega
    refine wpAny_pyNext_enum_endD D he (by rw [en]; exact ⟨hit, p⟩) fun h' eb => ⟨rfl, I.turned (t' := s.toks) (fun b o hb q => eb b o hb q) f0 f1 f3 f4 f5⟩
  self := fun A i s Q E st h => let ⟨⟨_, he⟩, _⟩ := st; wpAny_pyIter_enum he h
theorem walk_enumT {K : PySem.W.Frag} {a : Addr} {xs : List V} : Walk (IteT K a) xs.length (fun H => SqT K H a xs) (YPair (fun i => some (.int (i : Nat))) (fun i => xs[i]?)) := by
  refine ⟨fun i _ hi q => ⟨xs, xs[i], q, by simp [hi]⟩, fun _ q => ⟨xs, q, rfl⟩, fun i H v H' _ q y => ?_⟩
  obtain ⟨T, x, h1, h2, h3, h4⟩ := y
  exact ⟨T, .int (i : Nat), x, h1, h2, h3, rfl, h4 xs q⟩
/-- enumerate of a list or of a tuple -/
def iEnS (K : PySem.W.Frag) (ta : TA) : TI := fun σ H R => ta σ H fun vs H1 => ∃ a xs, vs = [.ref a] ∧ ((SqL K H1 a xs ∧ R (Ite K a) H1) ∨ (SqT K H1 a xs ∧ R (IteT K a) H1))
theorem pi_enS {X : Cx} {e : Expr} {ta : TA} {p pos tpos : Pos} {elts : List Expr} {kk : Nat} (hg : Gl X "enumerate") (hm : X.mg "enumerate" = Option.none) (ha : PA X [e] ta) (hs : starEach [e] X.env = [(false, eval e X.env)] := by rfl) :
    PI X (.Tuple elts kk tpos) (.Call (.Name "enumerate" p) [e] [] pos) (iEnS X.K ta) := by
  refine ⟨fun pins s σ H R I h => ?_⟩
  refine Call_ (ld_blt I hg hm boot_enumerate (PyProof.Rows.callWith_type1 (thn (ha.run pos pins s σ H _ I h) fun us s1 ⟨vs, H1, I1, r1, a, xs, ex, q1⟩ => ?_) hs rfl))
  subst ex
  obtain ⟨u, rfl, ru⟩ := r1.one
  obtain rfl : u = Value.ref a := ru
  have fr : ∀ b ∈ [s1.heap.objs.size + 1, s1.heap.objs.size], FpOk X pins H1 b := fun b hb => by
    have hle : s1.heap.objs.size ≤ b := by
      rcases (show b = s1.heap.objs.size + 1 ∨ b = s1.heap.objs.size by simpa using hb) with z | z <;> omega
    exact I1.fpOk hle (I1.hok.fresh hle)
  rcases q1 with ⟨hq, q⟩ | ⟨hq, q⟩
  · obtain ⟨its, rv, p', hz⟩ := I1.list hq
    exact call_enumerate_list p'.isList fun h' he hit hsz hk => wpAny_pyIter_enum he ⟨_, _, _, _, H1, rfl, I1.kept (t' := s1.toks) hk, turn_enum a (s1.heap.objs.size + 1) s1.heap.objs.size, ⟨⟨.none, he⟩, hit, Nat.succ_ne_self _⟩, fr, q⟩
  · obtain ⟨its, rv, p', hz⟩ := I1.tuple hq
    exact call_enumT p' fun h' he hit hsz hk => wpAny_pyIter_enum he ⟨_, _, _, _, H1, rfl, I1.kept (t' := s1.toks) hk, turn_enumT a (s1.heap.objs.size + 1) s1.heap.objs.size, ⟨⟨.none, he⟩, hit, Nat.succ_ne_self _⟩, fr, q⟩
end Tw

set_option Elab.async false
set_option linter.all false
set_option maxRecDepth 100000
set_option maxHeartbeats 2000000
/-! own rules: min(xs, key=lambda x: ys[x]), ys a name of the def -/
namespace Cl
open PySem PySem.Spec PyProof.Rows L2 LamX
section
variable {prog : Program} {w : World} {A : Around} {E : Value → Shared → Prop} {s : Shared}
/-- what the lambda's scope must say -/
structure LSc (scope : Scope) (x y : Str) : Prop where
  kind : scope.kind = .function
  co : scope.isCoroutine = false
  gen : scope.isGenerator = false
  nocell : ∀ z ∈ scope.names, z.2 ≠ .cell
  px : scope.names.lookup x = some .local
  fy : scope.names.lookup y = some .free
/-- lambda x: y[x], called with an int -/
theorem lam_ix {f l c' ck : Addr} {q x y : Str} {params : Arguments} {p1 p2 p3 : Pos} {scope : Scope} {cl : List (Str × Addr)} {pm ctv u : Value} {vs : List Value} {i : Int} {t : Tok} {Q : Value → Shared → Prop}
    (S : LSc scope x y) (hd : A.depth < recursionLimit) (hf : s.heap.get? f = some (PySem.W.kla_obj "<lambda>" q params (.Subscript (.Name y p1) (.Name x p2) p3) scope cl pm c' ctv))
    (hbind : ∀ v : Value, bindArgs (PySem.W.kla_fn "<lambda>" q params (.Subscript (.Name y p1) (.Name x p2) p3) scope cl pm (.ref c') ctv) ⟨[v], []⟩ = pure [(x, v)])
    (hcode : ∃ (oc : Obj) (us : Array Value) (tk : Tok), s.heap.get? c' = some oc ∧ oc.data = .fields us ∧ us[1]? = some (.str q tk)) (hlim : s.heap.NoLimit)
    (hck : cl.lookup y = some ck) (hcell : s.heap.IsCell ck (some (.ref l))) (hl : s.heap.IsList l vs.toArray) (h0 : 0 ≤ i) (h1 : i < 2 ^ 63) (hi : vs[i.toNat]? = some u)
    (hdx : (x == ("__debug__" : Str)) = false) (hdy : (y == ("__debug__" : Str)) = false) (hcy : (y == ("__classdict__" : Str)) = false)
    (h : ∀ h' tk, s.toks ≤ tk → (∀ b o, s.heap.get? b = some o → h'.get? b = some o) → Q u { s with heap := h', toks := tk }) : wpAny (model prog w) A (call (.ref f) [.int i t]) Q E s := by
  obtain ⟨oc, us, tq, hoc, hdc, hvc⟩ := hcode
  refine wpAny_call (PySem.W.kla_callFunE hd hf rfl S.co S.gen rfl ⟨c', oc, us, tq, rfl, hoc, hdc, hvc⟩ ?_)
  rw [hbind]
  refine wpAny_pure (wpAny_newFunctionEnv S.nocell (fun z hz => by rw [List.mem_singleton.mp hz]; exact S.px) (fun h₁ hns hsb => ⟨hlim.fresh _ hsb, ?_⟩) S.kind)
  have kp : ∀ b o, s.heap.get? b = some o → h₁.get? b = some o := fun b o e => hsb.extBut b o (Nat.ne_of_lt (Heap.lt_size e)) (Heap.get?_push_of_some _ e)
  refine PySem.W.kla_codeExpr ?_
  refine wpAny_Subscript_Name list_getitem_lookup ?_
  refine wpAny_Name (wpAny_loadName_free S.kind S.fy hck (hcell.keeps kp) ?_ hcy) hdy
  refine wpAny_Name (wpAny_loadName_local S.kind S.px hns (v := .int i t) ?_ ?_) hdx
  · simp [List.lookup]
  · have hl' : h₁.IsList l vs.toArray := hl.at fun o e => kp _ _ e
    refine ⟨hl'.typeIs, wpAny_getItem_list hl' h0 h1 (by simpa using hi) ?_⟩
    exact h h₁ _ (by show s.toks ≤ s.toks + _; omega) kp
/-- what a lambda x: y[x] is, and what it reads -/
structure LamAt (h : Heap) (f : Addr) (x y : Str) (q : Str) (params : Arguments) (p1 p2 p3 : Pos) (scope : Scope) (cl : List (Str × Addr)) (pm ctv : Value) (c' ck l : Addr) (us : List Value) : Prop where
  fn : h.get? f = some (PySem.W.kla_obj "<lambda>" q params (.Subscript (.Name y p1) (.Name x p2) p3) scope cl pm c' ctv)
  code : ∃ (oc : Obj) (us : Array Value) (tk : Tok), h.get? c' = some oc ∧ oc.data = .fields us ∧ us[1]? = some (.str q tk)
  lim : h.NoLimit
  hck : cl.lookup y = some ck
  cell : h.IsCell ck (some (.ref l))
  lst : h.IsList l us.toArray
theorem LamAt.keeps {h h' : Heap} {f : Addr} {x y : Str} {q : Str} {params : Arguments} {p1 p2 p3 : Pos} {scope : Scope} {cl : List (Str × Addr)} {pm ctv : Value} {c' ck l : Addr} {us : List Value}
    (L : LamAt h f x y q params p1 p2 p3 scope cl pm ctv c' ck l us) (k : ∀ b o, h.get? b = some o → h'.get? b = some o) : LamAt h' f x y q params p1 p2 p3 scope cl pm ctv c' ck l us :=
  ⟨k _ _ L.fn, let ⟨oc, us, tk, a, b, c⟩ := L.code; ⟨oc, us, tk, k _ _ a, b, c⟩, L.lim.keeps k, L.hck, L.cell.keeps k, L.lst.at fun o e => k _ _ e⟩
theorem min_lam {f a l c' ck : Addr} {q x y : Str} {params : Arguments} {p1 p2 p3 : Pos} {scope : Scope} {cl : List (Str × Addr)} {pm ctv : Value} {cs us : List Value} {ns : Nat → Int} {kf : Nat → Int} {Q : Value → Shared → Prop}
    (hh : A.handled = none) (S : LSc scope x y) (hd : A.depth < recursionLimit) (L : LamAt s.heap f x y q params p1 p2 p3 scope cl pm ctv c' ck l us)
    (hbind : ∀ v : Value, bindArgs (PySem.W.kla_fn "<lambda>" q params (.Subscript (.Name y p1) (.Name x p2) p3) scope cl pm (.ref c') ctv) ⟨[v], []⟩ = pure [(x, v)])
    (hdx : (x == ("__debug__" : Str)) = false) (hdy : (y == ("__debug__" : Str)) = false) (hcy : (y == ("__classdict__" : Str)) = false)
    (ht : s.heap.IsTuple a cs.toArray) (hc : ∀ i, i < cs.length → ∃ t, cs[i]? = some (.int (ns i) t)) (hne : 0 < cs.length)
    (hk : ∀ i, i < cs.length → 0 ≤ ns i ∧ ns i < 2 ^ 63 ∧ ∃ t, us[(ns i).toNat]? = some (.int (kf i) t))
    (h : ∀ v h' tk, cs[argBest (fun i j => decide (kf i < kf j)) (cs.length - 1)]? = some v → (∀ b o, s.heap.get? b = some o → h'.get? b = some o) → Q v { s with heap := h', toks := tk }) :
    wpAny (model prog w) A (call (.builtin "min") [.ref a] [(Str.ofString "key", .ref f)]) Q E s := by
  have hd1 : A.in1.depth < recursionLimit := hd
  refine call_min_walkK (PySem.W.iter_tupleW (A := A.in1) hh ht fun s₂ e2 W st hfp hfr kp2 => ?_)
  have sz2 : s.heap.objs.size < s₂.heap.objs.size := hfp _ List.mem_cons_self
  have old : ∀ {s' : Shared}, Moved [s₂.heap.objs.size, s.heap.objs.size] (fun a b => b = a) s₂ s' → ∀ b o, s.heap.get? b = some o → s'.heap.get? b = some o := fun {s'} m b o e => by
    have lt := Heap.lt_size e
    refine m.heap b o (fun hm => ?_) (kp2 b o e)
    rcases List.mem_cons.mp hm with z | hm
    · rw [z] at lt
      exact Nat.lt_irrefl _ (Nat.lt_trans lt sz2)
    · rw [List.mem_singleton.mp hm] at lt
      exact Nat.lt_irrefl _ lt
  have szc : cs.toArray.size = cs.length := by simp
  refine ⟨s.heap.objs.size, [s.heap.objs.size, a], [s.heap.objs.size], (fun a b => b = a), cs.toArray.size, _, _, fun s' => Moved [s₂.heap.objs.size, s.heap.objs.size] (fun a b => b = a) s₂ s', fun i k _ => ∃ t, k = .int (kf i) t, fun i j => decide (kf i < kf j), rfl, W, st, hfp, by rw [szc]; exact hne, ⟨?_, ?_, ?_, ?_⟩, Moved.refl fun _ => rfl, ?_⟩
  · exact fun s1 s' J m => J.trans (fun _ _ _ h1 h2 => h2.trans h1) m
  · exact fun i k s1 s' v _ => v
  · intro i v s1 o Q' E' hi hP J stI hS cont
    rw [szc] at hi
    obtain ⟨t, ec⟩ := hc i hi
    have ev : v = .int (ns i) t := by
      have hP' : cs[i]? = some v := by simpa using hP
      rw [ec] at hP'
      exact (Option.some.inj hP').symm
    subst ev
    obtain ⟨h0, h1, tk, eu⟩ := hk i hi
    have L1 := L.keeps (old J)
    refine lam_ix S hd1 L1.fn hbind L1.code L1.lim L1.hck L1.cell L1.lst h0 h1 eu hdx hdy hcy fun h' tk' hle kp => ?_
    exact cont _ _ (J.then_heap hle fun b o _ e => kp b o e) (W.frame _ s1 h' tk' stI hle fun b _ o e => kp b o e) (kp _ _ hS) ⟨_, rfl⟩ fun j k' z => z
  · intro i j ki kj s1 Q' E' J vi vj q
    exact CmpOf.ints_lt (prog := prog) (w := w) (A := A.in1) (P := fun i v => ∃ t, v = .int (kf i) t) kf (fun i v h => h) i j ki kj s1 Q' E' vi vj q
  · intro v s' hP J
    rw [szc] at hP
    have hP' : cs[argBest (fun i j => decide (kf i < kf j)) (cs.length - 1)]? = some v := by simpa using hP
    have e : s' = { s with heap := s'.heap, toks := s'.toks } := by
      obtain ⟨hp, g, d, tk, os⟩ := s'
      subst e2
      have h1 : g = s.gens := J.gens
      have h2 : d = s.drawn := J.drawn
      have h3 : os = s.os := J.os
      subst h1 h2 h3
      rfl
    rw [e]
    exact h v s'.heap s'.toks hP' (old J)
end
/-- the first of the least -/
def FirstLeast (kf : Nat → Int) (n j : Nat) : Prop := j < n ∧ (∀ i, i < n → kf j ≤ kf i) ∧ ∀ i, i < j → kf j < kf i
theorem best_is (kf : Nat → Int) : ∀ n, FirstLeast kf (n + 1) (argBest (fun i j => decide (kf i < kf j)) n)
  | 0 => ⟨Nat.zero_lt_one, fun i h => by rw [Nat.lt_one_iff.mp h]; exact Int.le_refl _, fun i h => nomatch h⟩
  | n + 1 => by
    obtain ⟨a, b, c⟩ := best_is kf n
    show FirstLeast kf (n + 2) (if decide (kf (n + 1) < kf (argBest (fun i j => decide (kf i < kf j)) n)) = true then n + 1 else argBest (fun i j => decide (kf i < kf j)) n)
    by_cases h : kf (n + 1) < kf (argBest (fun i j => decide (kf i < kf j)) n)
    · rw [if_pos (decide_eq_true h)]
      refine ⟨by omega, fun i hi => ?_, fun i hi => ?_⟩
      · by_cases e : i = n + 1
        · rw [e]
          exact Int.le_refl _
        · have := b i (by omega)
          omega
      · have := b i (by omega)
        omega
    · rw [if_neg (fun z => h (of_decide_eq_true z))]
      refine ⟨by omega, fun i hi => ?_, c⟩
      by_cases e : i = n + 1
      · rw [e]
        omega
      · exact b i (by omega)
theorem first_one {kf : Nat → Int} {n i j : Nat} (a : FirstLeast kf n i) (b : FirstLeast kf n j) : i = j := by
  rcases Nat.lt_trichotomy i j with h | h | h
  · have h1 := b.2.2 i h
    have h2 := a.2.1 j b.1
    omega
  · exact h
  · have h1 := a.2.2 j h
    have h2 := b.2.1 i a.1
    omega
/-- the item of ns whose key in ks is the least, the first such one -/
def LeastAt (ks ns : List Int) (m : Int) : Prop := ∃ j, FirstLeast (fun i => ks.getD (ns.getD i 0).toNat 0) ns.length j ∧ m = ns.getD j 0
theorem _root_.LamX.ExtN.rd {H H' : Hp} (e : ExtN H H') {a : Addr} {u : HO} (n : ∀ ps, u ≠ .tbl ps) (h : Rd H a u) : Rd H' a u := by
  rcases h with h | ⟨o, h⟩
  · exact .inl (e _ _ h n)
  · exact .inr ⟨o, e _ _ h fun ps z => nomatch z⟩
theorem _root_.LamX.ExtN.sqL {K : PySem.W.Frag} {H H' : Hp} (e : ExtN H H') {a : Addr} {xs : List V} (h : SqL K H a xs) : SqL K H' a xs := h.elim (fun h => .inl (e.rd (fun ps z => nomatch z) h)) .inr
theorem _root_.LamX.ExtN.sqT {K : PySem.W.Frag} {H H' : Hp} (e : ExtN H H') {a : Addr} {xs : List V} (h : SqT K H a xs) : SqT K H' a xs := h.elim (fun h => .inl (e.rd (fun ps z => nomatch z) h)) .inr
section
variable {X : Cx}
def tMinLam (K : PySem.W.Frag) (T : List (Addr × Str)) (j : Nat) (te : TE) : TE := fun σ H Q => te σ H fun v H1 => ∃ (a l : Addr) (ns ks : List Int), v = .ref a ∧ SqT K H1 a (ns.map V.int) ∧ σ[j]? = some (some (.ref l)) ∧ SqL K H1 l (ks.map V.int) ∧ 0 < ns.length ∧ (∀ n ∈ ns, 0 ≤ n ∧ n < ks.length) ∧
  Tabs T H1 ∧ ∀ (m : Int) (H2 : Hp), ExtN H1 H2 → Tabs T H2 → LeastAt ks ns m → Q (.int m) H2
/-- min(e, key=lambda x: y[x]), y a name of the def that it shares with the lambda -/
theorem pe_minlam {T : List (Addr × Str)} {c P : Addr} {p p1 p2 p3 lpos kpos pos : Pos} {e : Expr} {te : TE} {x y : Str} {j : Nat} {params : Arguments} {scope : Scope}
    (hg : Gl X "min") (hm : X.mg "min" = none) (he : PE X e te) (hd : X.A.depth < recursionLimit) (hh : X.A.handled = none) (TB : TabB X.base X.mg c P) (hcode : X.env.code = .ref c) (hmT : (P, X.env.qual ++ "<lambda>") ∈ T)
    (hu : ∀ q ∈ T, q.1 = P → q.2 = X.env.qual ++ "<lambda>") (S : LSc scope x y) (hfy : X.env.scope.names.lookup y = some .cell) (hfr : ∀ z ∈ scope.names, z.2 = .free → z.1 = y) (hN : X.N[j]? = some y) (hdef : defaultsOf params X.env = ([], []))
    (hbind : ∀ (q : Str) (cl : List (Str × Addr)) (pm cv ctv v : Value), bindArgs (PySem.W.kla_fn "<lambda>" q params (.Subscript (.Name y p1) (.Name x p2) p3) scope cl pm cv ctv) ⟨[v], []⟩ = pure [(x, v)])
    (hs : starEach [e] X.env = (false, eval e X.env) :: starEach [] X.env := by rfl)
    (hdx : (x == ("__debug__" : Str)) = false := by decide) (hdy : (y == ("__debug__" : Str)) = false := by decide) (hcy : (y == ("__classdict__" : Str)) = false := by decide) :
    PE X (.Call (.Name "min" p) [e] [⟨some "key", .Lambda params (.Subscript (.Name y p1) (.Name x p2) p3) scope lpos, kpos⟩] pos) (tMinLam X.K T j te) := by
  refine ⟨fun pins s σ H Q I h => ?_⟩
  have hfree : ∀ z ∈ scope.names, z.2 = .free → ∃ c, X.env.cells.lookup z.1 = some c := fun z hz e => I.ok.has _ (.inl (by rw [hfr z hz e]; exact hfy))
  refine wpAny_Call_Name_kw (ld_blt I hg hm (u := .builtin "min") (by decide +kernel) ?_)
  refine PyProof.Rows.callWith_kw ?_ (by rw [hs]; rfl) (by rw [hs]; rfl) (by rfl) (by rfl)
  rw [hs]
  show wpAny _ _ (spliced ((false, eval e X.env) :: backTo pos (starEach [] X.env))) _ _ s
  refine Calls.spliced_cons (thn (he.run pins s σ H _ I h) fun u s1 ⟨v, H1, I1, r1, a, l, ns, ks, ev, ht, hσ, hl, hne, hin, hT, q⟩ => Calls.spliced_nil ?_)
  subst ev
  obtain rfl : u = Value.ref a := r1
  show wpAny _ _ (evalAll ((do let v ← eval (.Lambda params (.Subscript (.Name y p1) (.Name x p2) p3) scope lpos) X.env; standAt pos; pure v) :: [])) _ _ s1
  refine wpAny_evalAll_cons (wpAny_bind (lam_make2 I1 TB hcode hmT hu hT hdef hfree fun f c' pm ctv H2 s2 I2 eN T2 hf hfn hff hco => wpAny_bind (wpAny_standAt (wpAny_pure (wpAny_evalAll_nil ?_)))))
  show wpAny _ _ (call (.builtin "min") [.ref a] [(Str.ofString "key", .ref f)]) _ _ s2
  obtain ⟨cs, rc, tc, _⟩ := I2.tuple (eN.sqT ht)
  obtain ⟨us, ru, pl, hz2⟩ := I2.list (eN.sqL hl)
  obtain ⟨m, _, look⟩ := I2.loc
  obtain ⟨u0, r0, lk⟩ := look j y _ hN hσ (.inr (.inl hfy))
  obtain rfl : u0 = Value.ref l := r0
  have cellAt : ∃ ck, X.env.cells.lookup y = some ck ∧ s2.heap.IsCell ck (some (.ref l)) := by
    rcases lk with ⟨k, _⟩ | ⟨_, ck, e1, e2⟩
    · rw [show X.env.kindOf y = some .cell from hfy] at k
      cases k
    · exact ⟨ck, e1, e2⟩
  obtain ⟨ck, eck, hcell⟩ := cellAt
  obtain ⟨⟨oc, vs, tk, o1, o2, o3⟩, _, _⟩ := I2.hok c' _ hco
  have lc : cs.length = ns.length := by rw [← rc.length, List.length_map]
  have lu : us.length = ks.length := by rw [← ru.length, List.length_map]
  have nsAt : ∀ i, i < ns.length → ∃ t, cs[i]? = some (.int (ns.getD i 0) t) := fun i hi => by
    obtain ⟨z, ez, rz⟩ := rc.get (i := i) (x := V.int (ns.getD i 0)) (by rw [List.getElem?_map, List.getD_eq_getElem?_getD, List.getElem?_eq_getElem hi]; rfl)
    obtain ⟨t, rfl⟩ := rz
    exact ⟨t, ez⟩
  refine min_lam (ns := fun i => ns.getD i 0) (kf := fun i => ks.getD (ns.getD i 0).toNat 0) hh S hd ⟨hf, ⟨oc, vs, tk, o1, o2, o3⟩, I2.nolimit, NdefX.clo_has hfree (PySem.mem_of_lookup S.fy) eck, hcell, pl.isList⟩ (fun v => hbind _ _ _ _ _ v) hdx hdy hcy tc (fun i hi => nsAt i (by omega)) (by omega)
    (fun i hi => ?_) fun v h' tk2 hv kp => ?_
  · have hi' : i < ns.length := by omega
    have hmem : ns.getD i 0 ∈ ns := by rw [List.getD_eq_getElem?_getD, List.getElem?_eq_getElem hi']; exact List.getElem_mem hi'
    obtain ⟨b0, b1⟩ := hin _ hmem
    have hs63 := line63
    rw [List.length_map] at hz2
    have hk' : (ns.getD i 0).toNat < ks.length := by omega
    obtain ⟨z, ez, rz⟩ := ru.get (i := (ns.getD i 0).toNat) (x := V.int (ks.getD (ns.getD i 0).toNat 0)) (by rw [List.getElem?_map, List.getD_eq_getElem?_getD (l := ks), List.getElem?_eq_getElem hk']; rfl)
    obtain ⟨t, rfl⟩ := rz
    exact ⟨b0, by omega, t, ez⟩
  · obtain ⟨n, en⟩ : ∃ n, ns.length = n + 1 := ⟨ns.length - 1, by omega⟩
    have fl := best_is (fun i => ks.getD (ns.getD i 0).toNat 0) n
    rw [← en] at fl
    rw [lc, show ns.length - 1 = n by omega] at hv
    obtain ⟨t, et⟩ := nsAt _ fl.1
    rw [et] at hv
    cases hv
    exact ⟨.int _, H2, I2.kept kp, ⟨t, rfl⟩, q _ H2 eN T2 ⟨_, fl, rfl⟩⟩
end
end Cl

set_option Elab.async false
set_option linter.all false
set_option maxRecDepth 100000
set_option maxHeartbeats 2000000
/-! own rule: list(o), o an instance with an __iter__ over its tuple and a __len__ -/
namespace Tw
open PySem PySem.Spec PyProof.Rows L2
def rListO (K : PySem.W.Frag) (C : Addr) (fld : Str) (sp : Sp) (E : XK) : List V → Hp → VK → Prop := fun xs H Q => ∃ (a dx : Addr) (fs : List (Str × V)) (t : Addr) (zs : List V), xs = [.ref a] ∧ H a = some (.ins C dx fs) ∧ fs.lookup fld = some (.ref t) ∧ SqT K H t zs ∧ zs.length ≤ 900 ∧
  sp [.ref a] H (fun v H' => ∃ n : Nat, v = .int n ∧ n < 1000 ∧ H' = H) E ∧ ∀ q, H q = none → Q (.ref q) (upd H q (.lst zs))
theorem ty_ne {a b : String} (h : Value.type a = Value.type b) (n : decide (a = b) = false) : False := by
  injection h with h
  exact of_decide_eq_false n h
theorem if_yes {α : Type} {M : Model} {A : Around} {E : Value → Shared → Prop} {s : Shared} {c : Bool} {a b : Sem α} {Q : α → Shared → Prop} (hc : c = true) (h : wpAny M A a Q E s) : wpAny M A (if c = true then a else b) Q E s := by
  rw [hc, if_pos rfl]
  exact h
section
variable {X : Cx} {k : Nat} {f : Addr} {fd : FuncData} {ps : List Str} {sp : Sp} {A1 : Around} {pins : List (Addr × Obj)} {σ : L2.St} {H : Hp} {s : Shared} {Q : VK}
/-- a def that raises nothing, called within a built-in -/
theorem run_sub0 {us : List Value} {vs : List V} {R : Value → Shared → Prop} (F : FnOk X.prog X.w X.K X.mg X.base CX0 k f fd ps sp) (sb : Sub X k A1) (hb : L2.Binds X.K fd ps []) (I : Inv X pins σ H s) (r : Vals vs us) (h : sp vs H Q E0) :
    wpAny (model X.prog X.w) A1 (call (.ref f) us) (EP X pins σ Q) R s := by
  have hl : us.length = ps.length := by rw [← r.length]; exact F.len _ _ _ _ h
  have hb1 : BindsTo s fd ⟨us, []⟩ (ps.zip us) := by
    have z := hb s us I.kIn (by rw [List.append_nil]; exact hl)
    rw [List.append_nil] at z
    exact z
  refine wpAny_call (codeAny_mono (F.run A1 X.stack s H ⟨us, []⟩ us vs Q E0 sb.room (Sub.env0 sb I) hb1 r h) fun z s' hq => ?_)
  match z, hq with
  | .error e, hq => exact False.elim hq
  | .ok (.ret u), hq => exact I.after hq
  | .ok .next, hq => exact False.elim hq
  | .ok .brk, hq => exact False.elim hq
  | .ok .cont, hq => exact False.elim hq
end
section
variable {X : Cx} {kI k : Nat} {fi fl C : Addr} {fdI fdL : FuncData} {psL : List Str} {spL : Sp} {fld : Str}
theorem call_listO (hdI : Dn X.K C "__iter__" fi) (FI : FnIt X.prog X.w X.K X.mg X.base k fi fdI ["self"] (spIter X.K C fld)) (bI : L2.Binds X.K fdI ["self"] [])
    (hdL : Dn X.K C "__len__" fl) (FL : FnOk X.prog X.w X.K X.mg X.base CX0 k fl fdL psL spL) (bL : L2.Binds X.K fdL psL []) (hr : Room (k + 3) X.A) : CallR X (.type "list") (rListO X.K C fld spL E0) := by
  intro pins s σ H xs us Q I rv h
  obtain ⟨a, dx, fs, t, zs, rfl, ha, hf, ht, hz, hlen, q⟩ := h
  obtain ⟨u, rfl, ru⟩ := rv.one
  cases ru
  have sb1 : Sub X (k + 1) X.A.in1.in1 := Sub.in1 (Sub.in1 (⟨hr, rfl⟩ : Sub X (k + 3) X.A))
  have sb : Sub X k X.A.in1.in1 := sb1.mono (Nat.le_succ k)
  refine callType_codes (Q₁ := fun obj s₁ => obj = .ref s.heap.objs.size ∧ s₁ = { s with heap := s.heap.push { cls := .type "list", data := .seq #[] } }) PySem.F.called_list (PySem.F.typeCall_list_1 _) PySem.F.entry_list_init
    (code_list_new _ ⟨rfl, rfl⟩) fun obj s₁ h₁ => ?_
  obtain ⟨rfl, rfl⟩ := h₁
  have hS : (s.heap.push { cls := .type "list", data := .seq #[] }).get? s.heap.objs.size = some { cls := .type "list", data := .seq #[] } := Heap.get?_push_size _ rfl
  refine ⟨⟨_, hS, rfl⟩, PySem.F.args_list_init_2 _ _, ?_⟩
  have nS : H s.heap.objs.size = none := I.hok.fresh (Nat.le_refl _)
  have fS : FpOk X pins H s.heap.objs.size := I.fpOk (Nat.le_refl _) nS
  have I1 : Inv X pins σ H { s with heap := s.heap.push { cls := .type "list", data := .seq #[] } } := I.kept (t' := s.toks) fun b u e => Heap.get?_push_of_some _ e
  show wpAny _ _ (do let old ← Builtin.List.listItems (.ref s.heap.objs.size); Builtin.List.listUpdate (.ref s.heap.objs.size) (fun _ => #[]); letGo old.toList.reverse; Builtin.List.listExtendWith (.ref s.heap.objs.size) (.ref a) .none) _ _ _
  refine wpAny_bind ?_
  unfold Builtin.List.listItems
  refine wpAny_bind (wpAny_seqItems hS rfl (wpAny_pure ?_))
  show wpAny _ _ (updateSeq s.heap.objs.size (fun _ => #[]) >>= fun _ => letGo (#[] : Array Value).toList.reverse >>= fun _ => Builtin.List.listExtendWith (.ref s.heap.objs.size) (.ref a) .none) _ _ _
  refine wpAny_bind (wpAny_updateSeq hS rfl ?_)
  have hS2 := Heap.get?_update_self (h := s.heap.push { cls := .type "list", data := .seq #[] }) (f := Obj.mapSeq fun _ => #[]) hS rfl
  have I2 := I1.turnedL (h' := (s.heap.push { cls := .type "list", data := .seq #[] }).update s.heap.objs.size (Obj.mapSeq fun _ => #[])) (t' := s.toks) (ch := [s.heap.objs.size]) (fun b o hb e => (Heap.get?_update_other _ _ (fun z => hb (by simp [z]))).trans e) (fun b hb => by rw [List.mem_singleton.mp hb]; exact fS)
  refine wpAny_bind (wpAny_letGo ?_)
  generalize hSa : s.heap.objs.size = S at *
  generalize hh2 : (s.heap.push { cls := .type "list", data := .seq #[] }).update S (Obj.mapSeq fun _ => #[]) = h2 at *
  have szS : S < h2.objs.size := Heap.lt_size hS2
  obtain ⟨mA, O, rr, _, _, _⟩ := ins_get I2.hok ha
  obtain ⟨od, J, hl⟩ := O.look
  obtain ⟨m0, hF⟩ := I2.fr
  have hne : S ≠ a := fun z => by rw [← z] at ha; rw [nS] at ha; cases ha
  have h1 : Builtin.List.listSameRef (.ref S) (.ref a) = false := by simp [Builtin.List.listSameRef, hne]
  unfold Builtin.List.listExtendWith
  refine wpAny_bind (J.type.here ?_)
  have n2 : (Value.ref C == Value.type "list") = false := rfl
  have n3 : (Value.ref C == Value.type "tuple") = false := rfl
  simp only [h1, n2, n3, Bool.or_false, Bool.false_eq_true, if_false]
  have I2p := I2.pinned (fp := [S]) (fun b hb => by rw [List.mem_singleton.mp hb]; exact fS) (fun b hb => by rw [List.mem_singleton.mp hb]; exact ⟨_, hS2, fun v z => nomatch z⟩)
  refine wpAny_bind (PySem.W.owit_iter hF I2.ok.mod.kin J hdI.at_ hdI.fn (thn (run_iter FI sb bI I2p ha hf ht) fun r s3 ⟨it, er, hn, h0, I3⟩ => ?_))
  subst er
  have e2 : upd H it (ItT t it 0) it = some (ItT t it 0) := upd_same
  have g : s3.heap.get? it = some (itTup t 0) := (I3.hok it _ e2).1
  have hS3 := (I3.pin (S, _) (List.mem_append_right _ (List.mem_append_right _ (mem_pinsAt (List.mem_singleton.mpr rfl) hS2)))).1
  have hTy : s3.TypeIs (.ref it) "tuple_iterator" := ⟨_, g, rfl⟩
  have fIt := ItX.inv_fp I3 e2 (Nat.le_trans I2.sz hn)
  have I4 := ItX.inv_drop I3 e2
  rw [ItX.dropH_upd h0] at I4 fIt
  unfold PySem.W.OwitIt
  refine wpAny_specialOf (name := Str.ofString "__next__") hTy PySem.F.slot_tuple_iterator_next.lookup ?_
  have I5 := I4.pinned (fp := [it]) (fun b hb => by rw [List.mem_singleton.mp hb]; exact fIt) (fun b hb => by rw [List.mem_singleton.mp hb]; exact ⟨_, g, fun v z => nomatch z⟩)
  show wpAny _ X.A.in1.in1 (holding [.ref it] (Builtin.List.listLengthHint (.ref a)) >>= _) _ _ s3
  obtain ⟨mA5, O5, rr5, _, _, _⟩ := ins_get I5.hok ha
  obtain ⟨od5, J5, hl5⟩ := O5.look
  obtain ⟨m5, hF5⟩ := I5.fr
  refine wpAny_bind (wpAny_holding ?_)
  have lenOk : ∀ {R : Value → Shared → Prop}, wpAny (model X.prog X.w) X.A.in1.in1 (call (.builtin "len") [.ref a]) (fun r s' => ∃ (n : Nat) (tk : Tok), r = .int n tk ∧ n < 1000 ∧ Inv X (pins ++ pinsAt [S] h2 ++ pinsAt [it] s3.heap) σ H s') R s3 := by
    intro R
    refine PySem.W.len_K hF5 I5.ok.mod.kin J5 hdL.at_ hdL.fn (thn (run_sub0 FL (Sub.in1 (Sub.mono sb1 (Nat.le_refl _))) bL I5 (.cons (relR a) .nil) hlen) fun r s' ⟨z, H', I', rz, n, ez, hn, eH⟩ => ?_)
    subst ez
    rw [eH] at I'
    obtain ⟨tk, rfl⟩ := rz
    exact ⟨⟨by omega, by omega⟩, n, _, rfl, hn, I'.tok _⟩
  unfold Builtin.List.listLengthHint
  refine wpAny_bind (wpAny_bind (J5.type.here ((PySem.W.looks_findIn I5.kIn hdL.at_).here ?_)))
  refine PySem.W.KFB.if_not rfl ?_
  refine if_yes rfl ?_
  refine wpAny_bind (wpAny_rule ?_)
  refine wpAny_bind (wpAny_attempt (thn lenOk fun r s6 ⟨n, tk, er, hn6, I6⟩ => ?_))
  subst er
  refine wpAny_bind (wpAny_of_eq (a := some ((n : Nat) : Int)) (by rfl) ?_)
  refine PySem.W.KFB.if_not (by unfold Builtin.List.listTooLong; exact decide_eq_false (by rw [sizeLine_eq, Int.toNat_natCast]; omega)) ?_
  refine wpAny_pure ?_
  -- the loop
  have I7 : Inv X pins σ H s6 := I6.unpinned.unpinned
  have hS6 := (I6.pin (S, _) (List.mem_append_right _ (List.mem_append_left _ (List.mem_append_right _ (mem_pinsAt (List.mem_singleton.mpr rfl) hS2))))).1
  have g6 := (I6.pin (it, _) (List.mem_append_right _ (List.mem_append_right _ (mem_pinsAt (List.mem_singleton.mpr rfl) g)))).1
  have fIt2 : FpOk X pins H it := ⟨fIt.1, fIt.2.1, fIt.2.2.1, fIt.2.2.2.1, fIt.2.2.2.2.1, fun p hp => fIt.2.2.2.2.2 p ((List.mem_append.mp hp).elim (fun z => List.mem_append_left _ z) fun z => List.mem_append_right _ (List.mem_append_left _ z))⟩
  have Sne' : S ≠ it := fun z => by
    rw [z, g6] at hS6
    exact ty_ne (show Value.type "tuple_iterator" = Value.type "list" from congrArg Obj.cls (Option.some.inj hS6)) (by decide +kernel)
  have loop : ∀ (s7 : Shared) (c : Nat), Inv X pins σ H s7 → s7.heap.get? S = some { cls := .type "list", data := .seq #[] c } → s7.heap.get? it = some (itTup t 0) →
      codeAny (model X.prog X.w) X.A.in1 (.builtin "list.extend.loop" ⟨[.ref S, .ref it, .none], []⟩) (wants (fun r s₂ => r = .none ∧ EP X pins σ Q (.ref S) s₂) X.xe) s7 := by
    intro s7 c J7 hS7 g7
    obtain ⟨its, rz, pl, hz2⟩ := J7.tuple ht
    have tne : t ≠ it := fun z => by
      obtain ⟨o, e1, e2, _⟩ := pl
      rw [z, g7] at e1
      rw [← Option.some.inj e1] at e2
      exact ty_ne (show Value.type "tuple_iterator" = Value.type "tuple" from e2) (by decide +kernel)
    have Sne : S ≠ it := fun z => by
      rw [z, g7] at hS7
      exact ty_ne (show Value.type "tuple_iterator" = Value.type "list" from congrArg Obj.cls (Option.some.inj hS7)) (by decide +kernel)
    have St : S ≠ t := fun z => by
      obtain ⟨o, e1, e2, _⟩ := pl
      rw [← z, hS7] at e1
      rw [← Option.some.inj e1] at e2
      exact ty_ne (show Value.type "list" = Value.type "tuple" from e2) (by decide +kernel)
    have li : its.length = zs.length := rz.length.symm
    have W := (PySem.Walks.tuple (prog := X.prog) (w := X.w) (A := X.A.in1.in1) sb1.room.hd it t tne its.toArray).toS
    refine PySem.codeAny_extend_loopS (A := X.A.in1) W (by rw [List.size_toArray, sizeLine_eq]; omega) S (fun z => ?_) .none _ 0 s7 #[] c rfl (Nat.zero_le _) ⟨⟨_, g7, rfl, rfl⟩, pl⟩ hS7 (PySem.ItemsOf.nil _) fun s8 acc c8 m hS8 hit => ?_
    · rcases List.mem_cons.mp z with z | z
      · exact Sne z
      · exact St (List.mem_singleton.mp z)
    have eacc : acc = its.toArray := by
      refine Array.ext_getElem? fun j => ?_
      by_cases hj : j < acc.size
      · rw [Array.getElem?_eq_getElem hj]
        exact (hit.2 j _ (Array.getElem?_eq_getElem hj)).symm
      · rw [Array.getElem?_eq_none (by omega), Array.getElem?_eq_none (by rw [← hit.1]; omega)]
    subst eacc
    have J8 := J7.turnedL (h' := s8.heap) (t' := s8.toks) (ch := [S, it]) (fun b o hb e => m.heap b o hb e) (fun b hb => by
      rcases List.mem_cons.mp hb with z | z
      · rw [z]; exact fS
      · rw [List.mem_singleton.mp z]; exact fIt2)
    have J9 := J8.take (h' := s8.heap) (t' := s8.toks) (it := S) (o := .lst zs) (fun _ _ _ e => e) fS ⟨by rw [sizeLine_eq]; omega, its, c8, rz, hS8⟩
    have e8 : s8 = { s7 with heap := s8.heap, toks := s8.toks } := Moved.eq_with m
    rw [e8]
    exact ⟨rfl, .ref S, _, J9, rfl, q S nS⟩
  refine wpAny_ite_split (fun _ => ?_) (fun _ => wpAny_pure ⟨plainId_quiet PySem.F.plain_extend_loop _, loop s6 _ I7 hS6 g6⟩)
  refine wpAny_bind (wpAny_rule ?_)
  refine wpAny_bind ?_
  show wpAny _ _ (updateSeq S (·.push .none) >>= fun _ => updateSeq S (·.pop)) _ _ _
  refine wpAny_bind (wpAny_updateSeq hS6 rfl ?_)
  have e9 := Heap.get?_update_self (h := s6.heap) (f := Obj.mapSeq (·.push Value.none)) hS6 rfl
  refine wpAny_updateSeq e9 rfl ?_ (by show 1 ≤ sizeLine; rw [sizeLine_eq]; decide) (by show 0 ≤ sizeLine + 1; exact Nat.zero_le _)
  have e10 := Heap.get?_update_self (h := s6.heap.update S (Obj.mapSeq (·.push Value.none))) (f := Obj.mapSeq (·.pop)) e9 rfl
  have J := I7.turnedL (h' := (s6.heap.update S (Obj.mapSeq (·.push Value.none))).update S (Obj.mapSeq (·.pop))) (t' := s6.toks) (ch := [S]) (fun b o hb e => (Heap.get?_update_other _ _ (fun z => hb (by simp [z]))).trans ((Heap.get?_update_other _ _ (fun z => hb (by simp [z]))).trans e)) (fun b hb => by rw [List.mem_singleton.mp hb]; exact fS)
  refine wpAny_pure ⟨plainId_quiet PySem.F.plain_extend_loop _, loop _ _ J e10 ?_⟩
  exact (Heap.get?_update_other _ _ Sne').trans ((Heap.get?_update_other _ _ Sne').trans g6)
end
end Tw

set_option Elab.async false
set_option linter.all false
set_option maxRecDepth 100000
set_option maxHeartbeats 2000000
/-! own rule: sorted(t), t a tuple of whole numbers -/
namespace Tw
open PySem PySem.Spec PyProof.Rows L2
section
variable {prog : Program} {w : World} {A : Around} {E : Value → Shared → Prop} {s : Shared}
/-- a tuple's items, gathered: they are met as a list's are -/
theorem gather_tup {t : Addr} {vs : List Value} {Q : List Value → Shared → Prop} (ht : s.heap.IsTuple t vs.toArray)
    (h : Q vs { s with heap := (s.heap.push (seqObj "list" #[] 0)).update s.heap.objs.size (Obj.mapSeq (· ++ vs.toArray)) }) (hz : vs.length ≤ sizeLine) :
    wpAny (model prog w) A (collect (.ref t)) Q E s := by
  obtain ⟨o, ho, hc, n, hd⟩ := ht
  unfold collect
  refine wpAny_bind (wpAny_runValue (codeAny_builtin entry_proto_collect' ?_))
  show wpAny _ _ (do again (.builtin "list.__iadd__" ⟨[← newList [], .ref t], []⟩)) _ _ s
  refine wpAny_bind (wpAny_newList (wpAny_pure ⟨Code.quiet_builtin _ (by decide +kernel), codeAny_builtin entry_list_iadd' ?_⟩))
  show wpAny _ _ (Builtin.List.listExtendWith (.ref s.heap.objs.size) (.ref t) (.ref s.heap.objs.size)) _ _ { s with heap := s.heap.push (seqObj "list" #[] 0) }
  have ho2 : (s.heap.push (seqObj "list" #[] 0)).get? t = some o := Heap.get?_push_of_some _ ho
  unfold Builtin.List.listExtendWith
  refine wpAny_bind (wpAny_typeOf (T := "tuple") ⟨o, ho2, hc⟩ ?_)
  have tt : (Value.type "tuple" == Value.type "tuple") = true := by rfl
  rw [if_pos (by rw [tt]; simp)]
  refine wpAny_bind (listItems_at ho2 hd ?_)
  refine wpAny_bind (listItems_at (xs := #[]) (n := 0) (Heap.get?_push_size _ rfl) rfl ?_)
  rw [if_neg (by simp)]
  refine wpAny_bind (listUpdate_at (xs := #[]) (n := 0) (Heap.get?_push_size _ rfl) rfl ?_ (Nat.zero_le _) (by show (#[] ++ vs.toArray).size ≤ sizeLine + 1; simp only [Array.size_append, List.size_toArray, List.length_nil]; omega))
  refine wpAny_pure ?_
  refine wpAny_bind (wpAny_load (get?_update_seq (Heap.get?_push_size _ rfl) _) ?_)
  show wpAny _ _ (pure ((#[] : Array Value) ++ vs.toArray).toList) Q E _
  rw [show ((#[] : Array Value) ++ vs.toArray).toList = vs by simp]
  exact wpAny_pure h
end
def rSortedTu (K : PySem.W.Frag) : List V → Hp → VK → Prop := fun vs H Q => ∃ (a : Addr) (ns : List Int), vs = [V.ref a] ∧ SqT K H a (ns.map V.int) ∧
  ∀ (ns' : List Int) (p : Addr), ns'.Perm ns → ns'.Pairwise (· ≤ ·) → H p = none → Q (.ref p) (upd H p (.lst (ns'.map V.int)))
section
variable {X : Cx}
theorem cr_sortedTu : CallR X (.builtin "sorted") (rSortedTu X.K) := by
  intro pins s σ H vs us Q I r h
  obtain ⟨a, ns, rfl, hs, q⟩ := h
  obtain ⟨its, rv, hl, hz⟩ := I.tuple hs
  rw [Vals.ref1 r]
  have hi := rv.ints
  have hzi : its.length ≤ sizeLine := by rw [← rv.length]; exact hz
  refine Calls.call_function_entry kind_sorted plain_sorted entry_sorted (args_sorted1 _) ?_
  unfold Builtin.«sorted»
  refine wpAny_bind (m := checkCount "sorted" 1 1 _) (wpAny_pure ?_)
  refine wpAny_bind (gather_tup hl ?_ hzi)
  refine wpAny_bind (wpAny_newList ?_ hzi)
  have hsz : ((s.heap.push (seqObj "list" #[] 0)).update s.heap.objs.size (Obj.mapSeq (· ++ its.toArray))).objs.size = s.heap.objs.size + 1 := by
    rw [Heap.size_update, size_push']
  have hoL : (((s.heap.push (seqObj "list" #[] 0)).update s.heap.objs.size (Obj.mapSeq (· ++ its.toArray))).push (seqObj "list" its.toArray 0)).get? (s.heap.objs.size + 1) = some (seqObj "list" its.toArray 0) := by
    rw [← hsz]
    exact Heap.get?_push_size _ rfl
  show wpAny _ _ _ _ _ { s with heap := ((s.heap.push (seqObj "list" #[] 0)).update s.heap.objs.size (Obj.mapSeq (· ++ its.toArray))).push (seqObj "list" its.toArray 0) }
  rw [hsz]
  refine wpAny_bind (wpAny_holding (wpAny_call_entry slot_list_sort ⟨_, hoL, rfl⟩ entry_list_sort (SrtO.list_sort_ord SrtO.swo_int hoL hzi (fun h2 => SrtO.ints_sortable hi h2) fun out h1 h2 => ⟨_, rfl, ?_⟩) (args_list_sort _)))
  refine wpAny_pure ⟨_, rfl, ?_⟩
  obtain ⟨k1, k2, k3⟩ := SrtO.ints_out hi h1 h2
  obtain ⟨ep, he'⟩ := PyProof.Rows.sortedAll_at s.heap its out.toArray
  have hlen : ((out.map SrtO.iv).map V.int).length ≤ sizeLine := by
    rw [List.length_map, k2.length_eq]
    rw [List.length_map] at hz
    exact hz
  exact ⟨.ref _, upd H (s.heap.objs.size + 1) (.lst ((out.map SrtO.iv).map V.int)), I.laid (t' := s.toks) (fun _ _ => PyProof.Rows.sortedAll_old) (Nat.le_succ _) ⟨hlen, out, ep, vals_of_ints k1, he'⟩, rfl, q _ _ k2 k3 (I.hok.fresh (Nat.le_succ _))⟩
end
end Tw

set_option Elab.async false
set_option linter.all false
set_option maxRecDepth 100000
set_option maxHeartbeats 1000000
/-! != of two tuples of two things, equal ones in turn -/
namespace Cq
open PySem PySem.SeqAt
open AutoSeq1 (wpAny_loadPart')
open MeetsSeq MeetsSeq2 MeetsSeq3 SeqRoads2
theorem pairs_ne {prog : Program} {w : World} {A : Around} {R : Result → Shared → Prop} {p q : Addr} {a b c e : Value} {k k2 : Nat} {u u2 : Option Addr} {z z2 : Array (Option Value)} {s : Shared}
    (hp : s.heap.get? p = some { cls := .type "tuple", dict := u, data := .seq #[a, b] k, slots := z }) (hq : s.heap.get? q = some { cls := .type "tuple", dict := u2, data := .seq #[c, e] k2, slots := z2 })
    (h : wpAny (model prog w) A.in1 (eqBool a c) (fun r s1 => r = true ∧ wpAny (model prog w) A.in1 (eqBool b e) (fun r s2 => r = true ∧ R (.ok (.ret (.bool false))) s2) (fun x s2 => R (.error x) s2) s1) (fun x s1 => R (.error x) s1) s) :
    wpAny (model prog w) A.in1 (Builtin.«tuple.__ne__» ⟨[.ref p, .ref q], []⟩) (GQ.FinOf prog w A R) (fun x s1 => R (.error x) s1) s := by
  have sub2 := AutoSeq1.sub_tuple_tuple
  obtain ⟨hh, gg, dd, tk, os⟩ := s
  wp_walk using wpAny_loadPart' hp, wpAny_loadPart' hq, wpAny_forIn_list _ (fun rest t s1 => t.1 = none ∧ ((rest = [(a, c), (b, e)] ∧ wpAny (model prog w) A.in1 (eqBool a c) (fun r s1 => r = true ∧ wpAny (model prog w) A.in1 (eqBool b e) (fun r s2 => r = true ∧ R (.ok (.ret (.bool false))) s2) (fun x s2 => R (.error x) s2) s1) (fun x s1 => R (.error x) s1) s1) ∨
    (rest = [(b, e)] ∧ wpAny (model prog w) A.in1 (eqBool b e) (fun r s2 => r = true ∧ R (.ok (.ret (.bool false))) s2) (fun x s2 => R (.error x) s2) s1) ∨ (rest = [] ∧ R (.ok (.ret (.bool false))) s1))) _
  case turn =>
    rintro ⟨y, x⟩ rest t s1 ⟨ht, ⟨e1, h1⟩ | ⟨e1, h1⟩ | ⟨e1, _⟩⟩
    · injection e1 with e1 e2
      injection e1 with e3 e4
      subst e3 e4 e2
      refine wpAny_bind (wpAny_mono h1 (fun r s2 g => ?_) fun _ _ g => g)
      obtain ⟨rfl, g⟩ := g
      wp_walk
      exact ⟨rfl, .inr (.inl ⟨rfl, g⟩)⟩
    · injection e1 with e1 e2
      injection e1 with e3 e4
      subst e3 e4 e2
      refine wpAny_bind (wpAny_mono h1 (fun r s2 g => ?_) fun _ _ g => g)
      obtain ⟨rfl, g⟩ := g
      wp_walk
      exact ⟨rfl, .inr (.inr ⟨rfl, g⟩)⟩
    · cases e1
  case fin =>
    rintro ⟨t1, t2⟩ s1 ⟨ht, ⟨e1, _⟩ | ⟨e1, _⟩ | ⟨_, h1⟩⟩
    · cases e1
    · cases e1
    · simp only at ht
      subst ht
      wp_walk
      simpa [Builtin.Tuple.tupleCompareSizes] using h1
  case h => exact ⟨rfl, .inl ⟨rfl, h⟩⟩
end Cq
namespace L2
open PySem PySem.Spec PyProof.Rows
theorem vals_two {a b : V} {l : List Value} (r : Vals [a, b] l) : ∃ x y, l = [x, y] ∧ RelV a x ∧ RelV b y := by
  cases r with
  | cons ra r =>
    cases r with
    | cons rb r =>
      cases r
      exact ⟨_, _, rfl, ra, rb⟩
def DPair (K : PySem.W.Frag) (D1 D2 : Eqv) : Eqv := fun x y H => ∃ (p q : Addr) (a b c e : V), x = .ref p ∧ y = .ref q ∧ SqT K H p [a, b] ∧ SqT K H q [c, e] ∧ D1 a c H ∧ D2 b e H
def rNeP (D : Eqv) : R2 := fun x y H Q => D x y H ∧ ∀ H', Ext H H' → Q (.bl false) H'
theorem op_neP {X : Cx} {n : Nat} {D1 D2 : Eqv} (g1 : EqG X n D1) (g2 : EqG X n D2) (m2 : Mon D2) (hr : Room (n + 1) X.A) : OpR X (compareOp .NotEq) (rNeP (DPair X.K D1 D2)) := by
  intro pins s σ H x y v u Q I rx ry ⟨⟨p, q, a, b, c, e, ex, ey, hp, hq, d1, d2⟩, k⟩
  subst ex ey
  cases rx
  cases ry
  have sb : Sub X (n + 1) X.A := ⟨hr, rfl⟩
  obtain ⟨its, r, e1, _⟩ := I.tuple hp
  obtain ⟨its2, r2, e2, _⟩ := I.tuple hq
  obtain ⟨va, vb, ei, ra, rb⟩ := vals_two r
  obtain ⟨vc, ve, ei2, rc, re⟩ := vals_two r2
  subst ei ei2
  obtain ⟨⟨cl, u1, da, z1⟩, o1, c1, n1, w1⟩ := id e1
  obtain ⟨⟨cl2, u2, da2, z2⟩, o2, c2, n2, w2⟩ := id e2
  dsimp only at c1 w1 c2 w2
  subst c1 w1 c2 w2
  show wpAny (model X.prog X.w) X.A (richCompare .NotEq (.ref p) (.ref q)) (EP X pins σ Q) X.xe s
  refine wpAny_richCompare_same_room (op := .NotEq) ⟨_, o1, rfl⟩ ⟨_, o2, rfl⟩ F.slot_tuple_ne (GQ.call_here F.slot_tuple_ne ⟨_, o1, rfl⟩ F.entry_tuple_ne (F.args_tuple_ne_2 _ _) ?_) hr.units0
  refine Cq.pairs_ne (R := wants (fun v s' => v ≠ .notImplemented ∧ EP X pins σ Q v s') X.xe) o1 o2 ?_
  refine wpAny_mono (g1 X.A.in1 pins s σ H _ _ va vc sb.in1 I ra rc d1) (fun t s1 ⟨ht, H1, I1, x1⟩ => ⟨ht, ?_⟩) fun _ _ g => g
  refine wpAny_mono (g2 X.A.in1 pins s1 σ H1 _ _ vb ve sb.in1 I1 rb re (m2 _ _ _ _ x1 d2)) (fun t s2 ⟨ht, H2, I2, x2⟩ => ⟨ht, ?_⟩) fun _ _ g => g
  exact ⟨(fun g => nomatch g), .bl false, H2, I2, rfl, k H2 (x1.trans x2)⟩
end L2


set_option Elab.async false
set_option linter.all false
set_option maxRecDepth 100000
set_option maxHeartbeats 4000000
/-! set(xs), xs a list of ints, as a value -/
namespace L2
open PySem PySem.Spec PyProof.Rows
section
variable {P : Program} {w : World} {A : Around} {E : Value → Shared → Prop}
/-- the set that is there at first -/
abbrev eS (w : World) : Obj := { cls := .type "set", dict := none, data := .set #[] 0 (.fresh 0 0 (!w.params.followText "set-order")) }
theorem init_over {z : Shared} {D l : Addr} {items : Array Value} {ns : List Int} {R : Result → Shared → Prop} (hh : A.handled = none) (hD : z.heap.get? D = some (eS w)) (hl : z.heap.IsList l items) (hit : IntsAre items.toList ns) (hb : ns.length + 1 < scanBound) (hne : l ≠ D)
    (q : ∀ (h' : Heap) (tk c : Nat), SetR w h' D (fun j => decide (j ∈ ns)) c → c ≤ ns.length → (∀ b o, b ≠ D → z.heap.get? b = some o → h'.get? b = some o) → R (.ok (.ret .none)) { z with heap := h', toks := tk }) :
    codeAny (model P w) A (.call (.builtin "set.__init__") ⟨[.ref D, .ref l], []⟩) R z := by
  have hn : items.size = ns.length := by
    have e := IntsAre.length hit
    rw [Array.length_toList] at e
    exact e
  have hT : Shared.TypeIs z (.ref D) "set" := ⟨_, hD, rfl⟩
  have lD : D < z.heap.objs.size := Heap.lt_size hD
  obtain ⟨⟨oc, od, oa, os⟩, hol, hcl, nl, hdl⟩ := id hl
  have ll : l < z.heap.objs.size := Heap.lt_size hol
  dsimp only at hcl hdl
  subst hcl hdl
  have no1 := F.sub_list_set
  have no2 := F.sub_list_frozenset
  have no3 : (Value.type "list" == Value.type "dict") = false := by decide
  refine codeAny_call_builtin F.called_set.init.plain F.entry_set_init (check_set_init_1 hT ?_)
  unfold Builtin.«set.__init__» noKeywords Builtin.Frozenset.updateFrom
  generalize hPI : pyIter = PI
  wp_walk
  subst hPI
  refine wpAny_pyIter_list hl ?_
  refine wpAny_bind (wpAny_runValue ?_)
  have free3 : A.in1.in1.handled = none := by simp [hh]
  have apart : l ≠ z.heap.objs.size := Nat.ne_of_lt ll
  have offS : D ∉ [z.heap.objs.size, l] := fun m => by
    rcases List.mem_cons.mp m with y | y
    · exact absurd y (Nat.ne_of_lt lD)
    · exact hne (List.mem_singleton.mp y).symm
  have each : ∀ (i : Nat) (v : Value), items[i]? = some v → ∃ k t, ns[i]? = some k ∧ v = .int k t := fun i v e => by
    have hi : i < ns.length := hn ▸ (Array.getElem?_eq_some_iff.mp e).1
    obtain ⟨t, e2⟩ := IntsAre.int_at hit i v (by rw [Array.getElem?_toList]; exact e)
    exact ⟨ns[i], t, List.getElem?_eq_getElem hi, by rw [e2, List.getD_eq_getElem?_getD, List.getElem?_eq_getElem hi]; rfl⟩
  refine set_update_ints ((Walks.list free3 _ l apart items).toS) D offS ns hn hb each (items.size - 0) 0 _ (by omega) (Nat.zero_le _) ?_ ⟨0, Nat.le_refl 0, ?_⟩ ?_
  · exact ⟨⟨_, Heap.get?_push_size _ rfl, rfl, rfl⟩, hl.push _⟩
  · exact setR_new_at (Heap.get?_push_of_some _ hD)
  rintro ⟨h', gens', drawn', tk', os'⟩ c moved hc new
  obtain rfl : gens' = z.gens := moved.gens
  obtain rfl : drawn' = z.drawn := moved.drawn
  obtain rfl : os' = z.os := moved.os
  show wpAny _ _ _ _ _ _
  refine wpAny_pure ?_
  show wpAny _ _ (ret Value.none) _ _ _
  refine wpAny_pure (q h' tk' c new (by omega) fun b o hbD e => ?_)
  have lb : b < z.heap.objs.size := Heap.lt_size e
  refine moved.heap b o (fun m => ?_) (Heap.get?_push_of_some _ e)
  rcases List.mem_cons.mp m with y | y
  · exact hbD y
  · exact absurd (List.mem_singleton.mp y) (Nat.ne_of_lt lb)
theorem set_over {z : Shared} {l : Addr} {items : Array Value} {ns : List Int} {Q : Value → Shared → Prop} (hh : A.handled = none) (hl : z.heap.IsList l items) (hit : IntsAre items.toList ns) (hb : ns.length + 1 < scanBound)
    (q : ∀ (h' : Heap) (tk c : Nat), SetR w h' z.heap.objs.size (fun j => decide (j ∈ ns)) c → c ≤ ns.length → (∀ b o, z.heap.get? b = some o → h'.get? b = some o) → Q (.ref z.heap.objs.size) { z with heap := h', toks := tk }) :
    wpAny (model P w) A (call (.type "set") [.ref l]) Q E z := by
  obtain ⟨c0, t0, mro0⟩ := F.called_set.mro
  have m1 := F.called_set.made
  have m2 := F.called_set.sub
  have m3 := F.called_set.notType
  have m4 := F.called_set.canCreate
  have m5 := F.typeCall_set_1 (.ref l)
  have ll : l < z.heap.objs.size := by
    obtain ⟨o, ho, _⟩ := id hl
    exact Heap.lt_size ho
  refine wpAny_call (codeAny_of_tree ?_)
  show wpAny _ _ (callAny (.type "set") _) _ _ _
  refine wpAny_pure ⟨Code.quiet_builtin _ (by decide +kernel), codeAny_builtin F.entry_type_call ?_⟩
  rw [Around.under_plain (weight_type_call_type "set" [.ref l] []) rfl]
  repeat any_goals first | assumption | wp_step
  have new1 : (z.heap.push (eS w)).get? z.heap.objs.size = some (eS w) := Heap.get?_push_size _ rfl
  refine codeAny_mono (code_set_led1 (.ref l) (E := E) (Q₁ := fun v y => v = .ref z.heap.objs.size ∧ y = { z with heap := z.heap.push (eS w) }) ⟨rfl, rfl⟩) fun r y hr => ?_
  cases r with
  | error e => exact hr
  | ok fl =>
    cases fl with
    | ret v =>
      obtain ⟨rfl, rfl⟩ := hr
      have hT : Shared.TypeIs { z with heap := z.heap.push (eS w) } (.ref z.heap.objs.size) "set" := ⟨_, new1, rfl⟩
      have i1 := F.called_set.init.lookup
      have i2 := F.called_set.init.bind (.ref z.heap.objs.size)
      repeat any_goals first | assumption | wp_step
      refine init_over (A := A.in1) (z := { z with heap := z.heap.push (eS w) }) (D := z.heap.objs.size) (by simp [hh]) new1 (hl.push _) hit hb (Nat.ne_of_lt ll) fun h' tk c S hc k => ?_
      show wpAny _ _ (pure (some Value.none)) _ _ _
      repeat any_goals first | assumption | wp_step
      exact q h' tk c S hc fun b o e => k b o (Nat.ne_of_lt (Heap.lt_size e)) (Heap.get?_push_of_some _ e)
    | _ => exact hr.elim
end
section
variable {X : Cx}
/-- set(xs) -/
def rSetLI (K : PySem.W.Frag) (w : World) : List V → Hp → VK → Prop := fun xs H Q => ∃ (l : Addr) (ns : List Int), xs = [V.ref l] ∧ SqL K H l (ns.map V.int) ∧ ns.length ≤ 1000 ∧ ∀ p n, n ≤ ns.length → H p = none → Q (.ref p) (upd H p (SetO w p (fun j => decide (j ∈ ns)) n))
theorem cr_setLI (hc : X.calm = true) : CallR X (.type "set") (rSetLI X.K X.w) := by
  intro pins s σ H xs us Q I r h
  obtain ⟨l, ns, rfl, hl, h1, q⟩ := h
  obtain ⟨its, rv, pl, _⟩ := I.list hl
  rw [Vals.ref1 r]
  refine set_over (I.ok.hd hc) pl.isList (ns := ns) (by simpa using rv.ints) (by unfold scanBound; omega) fun h' tk c R hc k => ?_
  exact ⟨.ref _, upd H s.heap.objs.size (SetO X.w s.heap.objs.size (fun j => decide (j ∈ ns)) c), I.laid (t' := tk) k (Nat.le_refl _) (setO_new R), rfl, q _ c hc (I.hok.fresh (Nat.le_refl _))⟩
end
end L2

set_option Elab.async false
set_option linter.all false
set_option maxRecDepth 100000
set_option maxHeartbeats 4000000
/-! sorted(xs), xs a list of tuples of ints, as long as a list may be -/
namespace L2
open PySem PySem.Spec PyProof.Rows PySem.W
abbrev tupE (ns : List Int) : PyData := .tuple (ns.map .int)
theorem tupE_le : dataLe false tupE = fun p q => decide (p ≤ q) := by
  funext p q
  show (!dataLt (.tuple (q.map .int)) (.tuple (p.map .int))) = _
  rw [dataLt_tuple]
  show (!rowLt (q.map .int) (p.map .int)) = _
  rw [dataLt_ints]
  by_cases h : q < p
  · have h' : ¬ p ≤ q := fun r => List.not_lt.mpr r h
    simp [h, h']
  · have h' : p ≤ q := List.not_lt.mp h
    simp [h, h']
section
variable {X : Cx} {pins : List (Addr × Obj)} {σ : St} {H : Hp} {s : Shared}
abbrev TupV (K : PySem.W.Frag) (H : Hp) (u : Value) (ns : List Int) : Prop := ∃ t, u = .ref t ∧ SqT K H t (ns.map V.int)
theorem tupV_of : ∀ {xs : List V} {bs : List (List Int)} {us : List Value}, Paired (TupI X.K H) xs bs → Vals xs us → EachIs (TupV X.K H) us bs
  | _, _, _, .nil, .nil => .nil
  | _, _, _, .cons ⟨t, e, h⟩ p, .cons r v => by
    subst e
    cases r
    exact .cons ⟨t, rfl, h⟩ (tupV_of p v)
theorem tupV_to : ∀ {bs : List (List Int)} {us : List Value}, EachIs (TupV X.K H) us bs → Paired (TupI X.K H) (us.map bkV) bs ∧ ∀ u ∈ us, ∃ a, u = Value.ref a
  | _, _, .nil => ⟨.nil, fun u hu => absurd hu (by simp)⟩
  | _, _, .cons ⟨t, e, h⟩ p => by
    subst e
    obtain ⟨h1, h2⟩ := tupV_to p
    refine ⟨.cons ⟨t, rfl, h⟩ h1, fun u hu => ?_⟩
    rcases List.mem_cons.mp hu with e | hu
    · exact ⟨t, e⟩
    · exact h2 u hu
theorem tupV_reads (I : Inv X pins σ H s) {u : Value} {ns : List Int} (h : TupV X.K H u ns) : ∃ as, Reads s.heap u (tupE ns) as := by
  obtain ⟨t, rfl, ht⟩ := h
  obtain ⟨its, rv, hT, _⟩ := I.tuple ht
  exact ⟨_, reads_tuple_ints hT (by simpa using rv.ints)⟩
/-- sorted(xs): the items ascending as tuples are -/
def rSortTA (K : PySem.W.Frag) : List V → Hp → VK → Prop := fun vs H Q => ∃ (a : Addr) (xs : List V) (bs : List (List Int)), vs = [V.ref a] ∧ SqL K H a xs ∧ Paired (TupI K H) xs bs ∧ (∀ b ∈ bs, b ≠ []) ∧
  ∀ (ys : List V) (p : Addr), Paired (TupI K H) ys (bs.mergeSort fun p q => decide (p ≤ q)) → H p = none → Q (.ref p) (upd H p (.lst ys))
theorem cr_sortTA (hu : X.A.units + 65 < cLine) : CallR X (.builtin "sorted") (rSortTA X.K) := by
  intro pins s σ H vs us Q I r h
  obtain ⟨a, xs, bs, rfl, hs, hp, hne, q⟩ := h
  obtain ⟨its, rv, hl, hz⟩ := I.list hs
  rw [Vals.ref1 r]
  have e0 : EachIs (TupV X.K H) its bs := tupV_of hp rv
  have hlen : bs.length = xs.length := (Paired.length hp).symm
  refine sorted_data (A := X.A) (R := TupV X.K H) (enc := tupE) hl.isList e0 (e0.mono fun u ns h => tupV_reads I h) (AllAlike.of fun b b' => by simp [alike, alike_ints]) (.inl fun d hd => ?_) (by rw [hlen]; exact hz) (fun b _ => ?_) fun out ho eo => ?_
  · obtain ⟨b, hb, rfl⟩ := List.mem_map.mp hd
    match b, hne b hb with
    | x :: r, _ => exact ⟨_, _, rfl⟩
  · have : (tupE b).depth ≤ 1 := by simp [PyData.depth, depth_ints]
    omega
  · rw [tupE_le] at eo
    obtain ⟨e1, e2⟩ := tupV_to eo
    obtain ⟨ep, he'⟩ := PyProof.Rows.sortedAll_at s.heap its out.toArray
    have hz2 : (out.map bkV).length ≤ sizeLine := by
      rw [List.length_map, ho, hlen]
      exact hz
    exact ⟨.ref _, upd H (s.heap.objs.size + 1) (.lst (out.map bkV)), I.laid (t' := s.toks) (fun _ _ => PyProof.Rows.sortedAll_old) (Nat.le_succ _) ⟨hz2, out, ep, bkV_vals e2, he'⟩, rfl, q _ _ e1 (I.hok.fresh (Nat.le_succ _))⟩
end
end L2

set_option Elab.async false
set_option linter.all false
set_option maxRecDepth 100000
set_option maxHeartbeats 4000000
/-! math.factorial -/
namespace L2
open PySem PySem.Spec PyProof.Rows
section
variable {X : Cx}
abbrev facN (n : Nat) : Nat := PySem.Builtin.Math.factorialNat n
def rFac : List V → Hp → VK → Prop := fun vs H Q => ∃ n : Nat, vs = [.int n] ∧ n ≤ 20000 ∧ Q (.int (facN n : Nat)) H
theorem cr_fac : CallR X (.builtin "math.factorial") rFac := by
  intro pins s σ H vs us Q I r h
  obtain ⟨n, rfl, hn, q⟩ := h
  cases r with
  | cons r1 r2 =>
    cases r2
    obtain ⟨t, rfl⟩ := r1
    exact PySem.W.mc_factorial (by omega) (by omega) fun _ => ⟨.int _, H, I.tok _, ⟨_, rfl⟩, q⟩
end
end L2

set_option Elab.async false
set_option linter.all false
set_option maxRecDepth 100000
set_option maxHeartbeats 4000000
/-! sorted(xs), xs a list of one item at most, whatever it is -/
namespace L2
open PySem PySem.Spec PyProof.Rows PySem.W
section
variable {X : Cx}
def rSort1 (K : PySem.W.Frag) : List V → Hp → VK → Prop := fun vs H Q => ∃ (a : Addr) (xs : List V), vs = [V.ref a] ∧ SqL K H a xs ∧ xs.length ≤ 1 ∧
  ∀ p : Addr, H p = none → Q (.ref p) (upd H p (.lst xs))
theorem cr_sort1 : CallR X (.builtin "sorted") (rSort1 X.K) := by
  intro pins s σ H vs us Q I r h
  obtain ⟨a, xs, rfl, hs, h1, q⟩ := h
  obtain ⟨its, rv, hl, hz⟩ := I.list hs
  rw [Vals.ref1 r]
  have hlen : xs.length = its.length := rv.length
  refine Srt.sorted_any hl.isList (by omega) (fun h2 => by omega) fun out hp => ?_
  have e : out = its := by
    match its, hlen with
    | [], _ => exact List.Perm.eq_nil hp
    | [x], _ => exact List.perm_singleton.mp hp
    | _ :: _ :: _, hl => simp only [List.length_cons] at hl; omega
  subst e
  obtain ⟨ep, he'⟩ := PyProof.Rows.sortedAll_at s.heap out out.toArray
  exact ⟨.ref _, upd H (s.heap.objs.size + 1) (.lst xs), I.laid (t' := s.toks) (fun _ _ => PyProof.Rows.sortedAll_old) (Nat.le_succ _) ⟨hz, out, ep, rv, he'⟩, rfl, q _ (I.hok.fresh (Nat.le_succ _))⟩
end
end L2

set_option Elab.async false
set_option linter.all false
set_option maxRecDepth 100000
set_option maxHeartbeats 4000000
/-! xs.extend(t), t a tuple -/
namespace PySem
open PySem PySem.W PySem.AutoSeq1
theorem ext_tup {l b : Addr} {items items2 : Array Value} {n n2 : Nat} {dc : Option Addr} {sl : Array (Option Value)} (hs0 : ¬(!items.isEmpty && Builtin.List.listTooLong (items.size + items2.size)) = true) (hs1 : items.size ≤ sizeLine) (hs2 : items.size + items2.size ≤ sizeLine + 1) :
    Meets (Builtin.«list.extend» ⟨[.ref l, .ref b], []⟩) (fun _ R s => s.heap.get? l = some { cls := .type "list", dict := none, data := .seq items n, slots := #[] } ∧ s.heap.get? b = some { cls := .type "tuple", dict := dc, data := .seq items2 n2, slots := sl } ∧
      R (.ok (.ret Value.none)) { s with heap := s.heap.update l (Obj.mapSeq fun x => x ++ items2), toks := s.toks }) :=
  .of_wp fun prog w A R s h => by
    obtain ⟨hp, g, d, tk, os⟩ := s
    obtain ⟨hl, hb, h⟩ := h
    have f1 := idx_int
    have f2 := sub_tuple_tuple
    have f3 := sub_list_list
    have f4 := sub_tuple_list
    have f5 := sub_list_tuple
    have hz' : (items ++ items2).size ≤ sizeLine + 1 := by rw [Array.size_append]; exact hs2
    wp_walk using (wpAny_updateSeq hl rfl (hz := hs1) (_hz' := hz')), wpAny_loadPart' hl, wpAny_loadPart' hb
    exact ⟨_, rfl, h⟩
end PySem
namespace L2
open PySem PySem.Spec PyProof.Rows PySem.W
section
variable {X : Cx}
def rExtT (K : PySem.W.Frag) : V → List V → Hp → VK → Prop := fun x vs H Q => ∃ (l b : Addr) (xs zs : List V), x = .ref l ∧ vs = [.ref b] ∧ H l = some (.lst xs) ∧ SqT K H b zs ∧ xs.length + zs.length ≤ sizeLine ∧
  Q .non (upd H l (.lst (xs ++ zs)))
theorem mt_extendT : MtM X "list.extend" (rExtT X.K) := by
  intro pins s σ H x vs v us Q I rx rv h
  obtain ⟨l, b, xs, zs, rfl, rfl, hH, hB, hz, q⟩ := h
  cases rx
  obtain ⟨u, rfl, ru⟩ := rv.one
  cases ru
  obtain ⟨z, its, n, r, hl, e⟩ := I.lstM hH
  obtain ⟨its2, r2, ⟨ob, eb, hc, n2, hd⟩, hl2⟩ := I.tuple hB
  obtain ⟨cls, dc, data, sl⟩ := ob
  dsimp only at hc hd
  subst hc hd
  have h1 := r.length
  have h2 := r2.length
  have hsz : its.toArray.size + its2.toArray.size ≤ sizeLine := by rw [List.size_toArray, List.size_toArray]; omega
  have hlong : ¬ (!its.toArray.isEmpty && Builtin.List.listTooLong (its.toArray.size + its2.toArray.size)) = true := by
    rw [notLongL hsz, Bool.and_false]
    exact Bool.false_ne_true
  refine call_meets F.slot_list_extend ⟨_, e, rfl⟩ F.entry_list_extend (F.args_list_extend_2 _ _) (PySem.ext_tup hlong (by rw [List.size_toArray]; omega) (by omega)) ⟨e, eb, ?_⟩
  refine ⟨.non, _, I.lset (its' := its ++ its2) hH e (by simp) (r.append r2) ?_, rfl, q⟩
  rw [List.length_append]
  omega
end
end L2

set_option Elab.async false
set_option linter.all false
set_option maxRecDepth 100000
set_option maxHeartbeats 4000000
/-! set(xs), xs a tuple of ints, as a value -/
namespace L2
open PySem PySem.Spec PyProof.Rows
section
variable {P : Program} {w : World} {A : Around} {E : Value → Shared → Prop}
theorem sub_tup_set : isSubtype (.type "tuple") (.type "set") = pure false := by rw [isSubtype_type]; kernel_rfl
theorem sub_tup_frz : isSubtype (.type "tuple") (.type "frozenset") = pure false := by rw [isSubtype_type]; kernel_rfl
theorem init_overT {z : Shared} {D l : Addr} {items : Array Value} {ns : List Int} {R : Result → Shared → Prop} (hh : A.handled = none) (hD : z.heap.get? D = some (eS w)) (hl : z.heap.IsTuple l items) (hit : IntsAre items.toList ns) (hb : ns.length + 1 < scanBound) (hne : l ≠ D)
    (q : ∀ (h' : Heap) (tk c : Nat), SetR w h' D (fun j => decide (j ∈ ns)) c → c ≤ ns.length → (∀ b o, b ≠ D → z.heap.get? b = some o → h'.get? b = some o) → R (.ok (.ret .none)) { z with heap := h', toks := tk }) :
    codeAny (model P w) A (.call (.builtin "set.__init__") ⟨[.ref D, .ref l], []⟩) R z := by
  have hn : items.size = ns.length := by
    have e := IntsAre.length hit
    rw [Array.length_toList] at e
    exact e
  have hT : Shared.TypeIs z (.ref D) "set" := ⟨_, hD, rfl⟩
  have lD : D < z.heap.objs.size := Heap.lt_size hD
  obtain ⟨⟨oc, od, oa, os⟩, hol, hcl, nl, hdl⟩ := id hl
  have ll : l < z.heap.objs.size := Heap.lt_size hol
  dsimp only at hcl hdl
  subst hcl hdl
  have no1 := sub_tup_set
  have no2 := sub_tup_frz
  have no3 : (Value.type "tuple" == Value.type "dict") = false := by decide
  refine codeAny_call_builtin F.called_set.init.plain F.entry_set_init (check_set_init_1 hT ?_)
  unfold Builtin.«set.__init__» noKeywords Builtin.Frozenset.updateFrom
  generalize hPI : pyIter = PI
  wp_walk
  subst hPI
  refine wpAny_pyIter_tuple hl ?_
  refine wpAny_bind (wpAny_runValue ?_)
  have free3 : A.in1.in1.handled = none := by simp [hh]
  have apart : l ≠ z.heap.objs.size := Nat.ne_of_lt ll
  have offS : D ∉ [z.heap.objs.size, l] := fun m => by
    rcases List.mem_cons.mp m with y | y
    · exact absurd y (Nat.ne_of_lt lD)
    · exact hne (List.mem_singleton.mp y).symm
  have each : ∀ (i : Nat) (v : Value), items[i]? = some v → ∃ k t, ns[i]? = some k ∧ v = .int k t := fun i v e => by
    have hi : i < ns.length := hn ▸ (Array.getElem?_eq_some_iff.mp e).1
    obtain ⟨t, e2⟩ := IntsAre.int_at hit i v (by rw [Array.getElem?_toList]; exact e)
    exact ⟨ns[i], t, List.getElem?_eq_getElem hi, by rw [e2, List.getD_eq_getElem?_getD, List.getElem?_eq_getElem hi]; rfl⟩
  refine set_update_ints ((Walks.tuple free3 _ l apart items).toS) D offS ns hn hb each (items.size - 0) 0 _ (by omega) (Nat.zero_le _) ?_ ⟨0, Nat.le_refl 0, ?_⟩ ?_
  · exact ⟨⟨_, Heap.get?_push_size _ rfl, rfl, rfl⟩, hl.push _⟩
  · exact setR_new_at (Heap.get?_push_of_some _ hD)
  rintro ⟨h', gens', drawn', tk', os'⟩ c moved hc new
  obtain rfl : gens' = z.gens := moved.gens
  obtain rfl : drawn' = z.drawn := moved.drawn
  obtain rfl : os' = z.os := moved.os
  show wpAny _ _ _ _ _ _
  refine wpAny_pure ?_
  show wpAny _ _ (ret Value.none) _ _ _
  refine wpAny_pure (q h' tk' c new (by omega) fun b o hbD e => ?_)
  have lb : b < z.heap.objs.size := Heap.lt_size e
  refine moved.heap b o (fun m => ?_) (Heap.get?_push_of_some _ e)
  rcases List.mem_cons.mp m with y | y
  · exact hbD y
  · exact absurd (List.mem_singleton.mp y) (Nat.ne_of_lt lb)
theorem set_overT {z : Shared} {l : Addr} {items : Array Value} {ns : List Int} {Q : Value → Shared → Prop} (hh : A.handled = none) (hl : z.heap.IsTuple l items) (hit : IntsAre items.toList ns) (hb : ns.length + 1 < scanBound)
    (q : ∀ (h' : Heap) (tk c : Nat), SetR w h' z.heap.objs.size (fun j => decide (j ∈ ns)) c → c ≤ ns.length → (∀ b o, z.heap.get? b = some o → h'.get? b = some o) → Q (.ref z.heap.objs.size) { z with heap := h', toks := tk }) :
    wpAny (model P w) A (call (.type "set") [.ref l]) Q E z := by
  obtain ⟨c0, t0, mro0⟩ := F.called_set.mro
  have m1 := F.called_set.made
  have m2 := F.called_set.sub
  have m3 := F.called_set.notType
  have m4 := F.called_set.canCreate
  have m5 := F.typeCall_set_1 (.ref l)
  have ll : l < z.heap.objs.size := by
    obtain ⟨o, ho, _⟩ := id hl
    exact Heap.lt_size ho
  refine wpAny_call (codeAny_of_tree ?_)
  show wpAny _ _ (callAny (.type "set") _) _ _ _
  refine wpAny_pure ⟨Code.quiet_builtin _ (by decide +kernel), codeAny_builtin F.entry_type_call ?_⟩
  rw [Around.under_plain (weight_type_call_type "set" [.ref l] []) rfl]
  repeat any_goals first | assumption | wp_step
  have new1 : (z.heap.push (eS w)).get? z.heap.objs.size = some (eS w) := Heap.get?_push_size _ rfl
  refine codeAny_mono (code_set_led1 (.ref l) (E := E) (Q₁ := fun v y => v = .ref z.heap.objs.size ∧ y = { z with heap := z.heap.push (eS w) }) ⟨rfl, rfl⟩) fun r y hr => ?_
  cases r with
  | error e => exact hr
  | ok fl =>
    cases fl with
    | ret v =>
      obtain ⟨rfl, rfl⟩ := hr
      have hT : Shared.TypeIs { z with heap := z.heap.push (eS w) } (.ref z.heap.objs.size) "set" := ⟨_, new1, rfl⟩
      have i1 := F.called_set.init.lookup
      have i2 := F.called_set.init.bind (.ref z.heap.objs.size)
      repeat any_goals first | assumption | wp_step
      refine init_overT (A := A.in1) (z := { z with heap := z.heap.push (eS w) }) (D := z.heap.objs.size) (by simp [hh]) new1 (hl.push _) hit hb (Nat.ne_of_lt ll) fun h' tk c S hc k => ?_
      show wpAny _ _ (pure (some Value.none)) _ _ _
      repeat any_goals first | assumption | wp_step
      exact q h' tk c S hc fun b o e => k b o (Nat.ne_of_lt (Heap.lt_size e)) (Heap.get?_push_of_some _ e)
    | _ => exact hr.elim
end
section
variable {X : Cx}
/-- set(xs) -/
def rSetTI (K : PySem.W.Frag) (w : World) : List V → Hp → VK → Prop := fun xs H Q => ∃ (l : Addr) (ns : List Int), xs = [V.ref l] ∧ SqT K H l (ns.map V.int) ∧ ns.length ≤ 1000 ∧ ∀ p n, n ≤ ns.length → H p = none → Q (.ref p) (upd H p (SetO w p (fun j => decide (j ∈ ns)) n))
theorem cr_setTI (hc : X.calm = true) : CallR X (.type "set") (rSetTI X.K X.w) := by
  intro pins s σ H xs us Q I r h
  obtain ⟨l, ns, rfl, hl, h1, q⟩ := h
  obtain ⟨its, rv, pl, _⟩ := I.tuple hl
  rw [Vals.ref1 r]
  refine set_overT (I.ok.hd hc) pl (ns := ns) (by simpa using rv.ints) (by unfold scanBound; omega) fun h' tk c R hc k => ?_
  exact ⟨.ref _, upd H s.heap.objs.size (SetO X.w s.heap.objs.size (fun j => decide (j ∈ ns)) c), I.laid (t' := tk) k (Nat.le_refl _) (setO_new R), rfl, q _ c hc (I.hok.fresh (Nat.le_refl _))⟩
end
end L2

set_option Elab.async false
set_option linter.all false
set_option maxRecDepth 100000
set_option maxHeartbeats 4000000
/-! t > u, both tuples of ints -/
namespace L2
open PySem PySem.Spec PyProof.Rows
abbrev gtB (ns ms : List Int) : Bool := Ob.lexAt (fun j => decide (ns.getD j 0 = ms.getD j 0)) (fun j => decide (ms.getD j 0 < ns.getD j 0)) (decide (ms.length < ns.length)) 0 (min ns.length ms.length)
def rGtT (K : PySem.W.Frag) : R2 := fun x y H Q => ∃ (t1 t2 : Addr) (ns ms : List Int), (x = .ref t1 ∧ y = .ref t2) ∧ (SqT K H t1 (ns.map V.int) ∧ SqT K H t2 (ms.map V.int)) ∧ Q (.bl (gtB ns ms)) H
theorem op_gtT {X : Cx} (few : X.A.units < cLine) : OpR X (compareOp .Gt) (rGtT X.K) := by
  rintro pins s σ H x y v u Q I rx ry ⟨t1, t2, ns, ms, ⟨rfl, rfl⟩, ⟨h1, h2⟩, q⟩
  cases rx; cases ry
  obtain ⟨us, va, pa, _⟩ := I.tuple h1
  obtain ⟨ws, vb, pb, _⟩ := I.tuple h2
  have item : ∀ {zs : List Value} {ks : List Int}, IntsAre zs ks → ∀ j (h : j < zs.toArray.size), ∃ t, zs.toArray[j] = .int (ks.getD j 0) t := fun ii j h =>
    PyProof.Rows.IntsAre.int_at ii _ _ (by simp at h; simp [h])
  have size : ∀ {zs : List Value} {ks : List Int}, IntsAre zs ks → zs.toArray.size = ks.length := fun ii => by rw [List.size_toArray]; exact ii.length
  have beq : ∀ a b : Int, decide (a = b) = (a == b) := fun a b => by
    by_cases c : a = b
    · subst c; simp
    · rw [decide_eq_false c]; exact (beq_eq_false_iff_ne.mpr c).symm
  have main := Ob.RcOp.tuples_gt (A := X.A) (s := s) (e := fun j => decide (ns.getD j 0 = ms.getD j 0)) (r := fun j => decide (ms.getD j 0 < ns.getD j 0)) pa pb few
    (fun j i1 i2 => by
      obtain ⟨k1, g1⟩ := item va.ints j i1
      obtain ⟨k2, g2⟩ := item vb.ints j i2
      rw [g1, g2, beq]
      exact SeqAt.EqAt.int_int _ _ _ _)
    (fun j i1 i2 _ => by
      obtain ⟨k1, g1⟩ := item va.ints j i1
      obtain ⟨k2, g2⟩ := item vb.ints j i2
      rw [g1, g2]
      exact Ob.RcOp.gt_int _ _ _ _)
  rw [size va.ints, size vb.ints] at main
  exact main X.prog X.w X.xe (EP X pins σ Q) ⟨.bl _, H, I, rfl, q⟩
end L2

set_option Elab.async false
set_option linter.all false
set_option maxRecDepth 100000
set_option maxHeartbeats 4000000
/-! sorted(xs), xs a list of tuples of ints, the first of which has no item -/
namespace PySem.W
open PySem PySem.Calls PyProof.Rows PySem.SeqAt
section
variable {prog : Program} {w : World} {A : Around} {E : Value → Shared → Prop} {s : Shared}
theorem call_tuple_ltZ {Q : Value → Shared → Prop} {l b : Addr} {items items2 : Array Value} {e r : Nat → Bool} (hl : s.heap.IsTuple l items) (hb : s.heap.IsTuple b items2)
    (he : ∀ j (h1 : j < items.size) (h2 : j < items2.size), EqAt A.in1 s items[j] items2[j] (e j)) (hr : ∀ j (h1 : j < items.size) (h2 : j < items2.size), e j = false → RcLt A.in1 s items[j] items2[j] (r j))
    (h : Q (.bool (firstLt e r (decide (items.size < items2.size)) (List.range (min items.size items2.size)))) s) : wpAny (model prog w) A (call (.builtin "tuple.__lt__") [.ref l, .ref b]) Q E s := by
  obtain ⟨⟨cls, dd, data, sl⟩, ho, hc, n, hd⟩ := id hl
  obtain ⟨⟨cls2, dd2, data2, sl2⟩, ho2, hc2, n2, hd2⟩ := id hb
  simp only at hc hd hc2 hd2
  subst hc hd hc2 hd2
  exact call_meets F.slot_tuple_lt ⟨_, ho, rfl⟩ F.entry_tuple_lt (F.args_tuple_lt_2 _ _) (tuple_ltAt l b items items2 n n2 dd dd2 sl sl2 e r) ⟨ho, ho2, he, hr, h⟩
theorem oneLt_tupZ {xs ys : List PyData} {a b : Value} {as bs : List Addr} {Q : Bool → Shared → Prop} (ra : Reads s.heap a (.tuple xs) as) (rb : Reads s.heap b (.tuple ys) bs) (hal : alikeAll xs ys = true)
    (hu : A.units + min (PyData.tuple xs).depth (PyData.tuple ys).depth < cLine) (hq : Q (dataLt (.tuple xs) (.tuple ys)) s) : wpAny (model prog w) A (oneLt' true a b) Q E s := by
  cases ra with
  | @tuple l o vs n _ as₁ h1 h2 h3 h4 =>
    cases rb with
    | @tuple l' o' vs' n' _ bs₁ k1 k2 k3 k4 =>
      have n1 : vs.size = xs.length := by simpa using ReadsAll.length _ _ _ h4
      have n2 : vs'.size = ys.length := by simpa using ReadsAll.length _ _ _ k4
      rw [dataLt_tuple, ← firstLt_toks xs ys hal, ← n1, ← n2] at hq
      rw [oneLt'_eq]
      simp only [if_true]
      refine wpAny_bind (wpAny_cRoomFor (room_here hu) ?_)
      refine wpAny_bind (wpAny_callSpecialIfBound?_slot (T := "tuple") ⟨_, h1, h2⟩ F.slot_tuple_lt (call_tuple_ltZ (e := pairEq xs ys) (r := fun j => dataLt (xs.getD j .none) (ys.getD j .none)) ⟨_, h1, h2, _, h3⟩ ⟨_, k1, k2, _, k3⟩ (fun j j1 j2 => ?_) (fun j j1 j2 hj => ?_) ?_))
      · have := eqAt_alikeAll xs ys A.in1 s vs.toList vs'.toList _ _ h4 k4 hal (room_in hu) j (by simpa using j1) (by simpa using j2)
        simpa using this
      · have := rcLt_alikeAll xs ys A.in1 s vs.toList vs'.toList _ _ h4 k4 hal (room_in hu) j (by simpa using j1) (by simpa using j2) hj
        simpa using this
      · exact wpAny_truthy_bool hq
end
section
variable {M : Model} {A : Around} {E : Value → Shared → Prop} {s : Shared}
def TupAt (h : Heap) (v : Value) (xs : Array Value) : Prop := ∃ a o n, v = .ref a ∧ h.get? a = some o ∧ o.cls = .type "tuple" ∧ o.data = .seq xs n
theorem first_tupZ {v : Value} {xs : Array Value} {Q : Option Value → Shared → Prop} (t : TupAt s.heap v xs) (h : Q xs[0]? s) : wpAny M A (firstOfTuple' v) Q E s := by
  obtain ⟨a, o, n, rfl, ho, hc, hd⟩ := t
  rw [kas_first_eq]
  refine wpAny_bind (Looks.here (show Looks M s.heap (typeOf (.ref a)) o.cls from (Looks.ld ho).andThen .now) ?_)
  rw [hc, if_neg (by first | decide | simp)]
  exact wpAny_bind (listItems_at ho hd (wpAny_pure h))
theorem firsts_anyZ : ∀ (vs : List Value), (∀ v ∈ vs, ∃ xs, TupAt s.heap v xs) → ∃ rs : List (Option Value), ∀ {Q : List (Option Value) → Shared → Prop}, Q rs s → wpAny M A (vs.mapM firstOfTuple') Q E s
  | [], _ => ⟨[], fun h => by rw [List.mapM_nil]; exact wpAny_pure h⟩
  | v :: vs, t => by
    obtain ⟨xs, hx⟩ := t v (.head _)
    obtain ⟨rs, hr⟩ := firsts_anyZ vs fun v hv => t v (.tail _ hv)
    refine ⟨xs[0]? :: rs, fun {Q} h => ?_⟩
    rw [List.mapM_cons]
    exact wpAny_bind (first_tupZ hx (wpAny_bind (hr (Q := fun bs s' => wpAny M A (pure (xs[0]? :: bs)) Q E s') (wpAny_pure h))))
theorem kind_tupZ {v₁ : Value} {rest : List Value} {Q : SortKind → Shared → Prop} (h1 : TupAt s.heap v₁ #[]) (hT : ∀ v ∈ rest, ∃ xs, TupAt s.heap v xs) (h : Q oneType' s) : wpAny M A (keyKind' (v₁ :: rest).toArray) Q E s := by
  obtain ⟨rs, hr⟩ := firsts_anyZ (M := M) (A := A) (E := E) rest hT
  rw [keyKind'_eq, List.mapM_toArray, map_eq_pure_bind]
  refine wpAny_bind (wpAny_bind ?_)
  rw [List.mapM_cons]
  refine wpAny_bind (first_tupZ h1 (wpAny_bind (hr ?_)))
  refine wpAny_pure (wpAny_pure ?_)
  rw [if_neg (by simp), if_neg (by simp)]
  rw [oneTypeOnly'_eq, List.mapM_toArray, map_eq_pure_bind]
  have hty : ∀ v ∈ v₁ :: rest, ∀ (Q' : Value → Shared → Prop), Q' (.type "tuple") s → wpAny M A (typeOf v) Q' E s := fun v hv Q' hq => by
    have ht : ∃ xs, TupAt s.heap v xs := by
      rcases List.mem_cons.mp hv with rfl | hv
      · exact ⟨_, h1⟩
      · exact hT v hv
    obtain ⟨xs, a, o, n, rfl, ho, hc, hd⟩ := ht
    refine Looks.here (show Looks M s.heap (typeOf (.ref a)) o.cls from (Looks.ld ho).andThen .now) ?_
    rw [hc]
    exact hq
  refine wpAny_bind (wpAny_bind (wpAny_bind (kas_mapM (r := .type "tuple") _ hty (wpAny_pure ?_))))
  have hall : ((List.map (fun _ => Value.type "tuple") (v₁ :: rest)).toArray.all fun x => x == Value.type "tuple") = true := by
    simp only [List.all_toArray, List.all_map, List.all_eq_true]
    intro _ _
    rfl
  have h0 : (List.map (fun _ => Value.type "tuple") (v₁ :: rest)).toArray[0]? = some (Value.type "tuple") := by simp
  rw [h0]
  simp only [hall, if_true]
  exact wpAny_pure (wpAny_pure h)
end
section
variable {prog : Program} {w : World} {A : Around} {E : Value → Shared → Prop} {s : Shared}
theorem reads_tupZ {v : Value} {r : List PyData} {as : List Addr} (h : Reads s.heap v (.tuple r) as) : ∃ xs, TupAt s.heap v xs := by
  cases h with
  | @tuple l o vs n _ as₁ h1 h2 h3 h4 => exact ⟨_, l, o, n, rfl, h1, h2, h3⟩
theorem reads_tup0Z {v : Value} {as : List Addr} (h : Reads s.heap v (.tuple []) as) : TupAt s.heap v #[] := by
  cases h with
  | @tuple l o vs n _ as₁ h1 h2 h3 h4 =>
    have n1 : vs.size = 0 := by simpa using ReadsAll.length _ _ _ h4
    obtain rfl : vs = #[] := Array.eq_empty_of_size_eq_zero n1
    exact ⟨l, o, n, rfl, h1, h2, h3⟩
theorem SortsAt.tupZ {vs : List Value} {ds : List PyData} (e : EachIs (fun v d => ∃ as, Reads s.heap v d as) vs (.tuple [] :: ds)) (hal : AllAlike (.tuple [] :: ds)) (ht : ∀ d, d ∈ ds → ∃ r, d = .tuple r) (hu : ∀ d, d ∈ PyData.tuple [] :: ds → A.units + d.depth < cLine) :
    SortsAt prog w A s (dataKind s.heap (.tuple [] :: ds)) vs := by
  have ht2 : ∀ d, d ∈ PyData.tuple [] :: ds → ∃ r, d = .tuple r := fun d hd => by
    rcases List.mem_cons.mp hd with rfl | hd
    · exact ⟨_, rfl⟩
    · exact ht d hd
  refine ⟨fun v hv => ?_, oneType', ?_, fun h2 E Q hq => ?_⟩
  · obtain ⟨d, hd, as, r⟩ := e.left v hv
    exact ⟨_, dataKind_some hal hd r⟩
  · intro E x y a b Q ha hb hq
    obtain ⟨d, as, hd, ra, rfl⟩ := dataKind_inv ha
    obtain ⟨d', as', hd', rb, rfl⟩ := dataKind_inv hb
    have hdd := hal d hd d' hd'
    have hroom : A.units + min d.depth d'.depth < cLine := Nat.lt_of_le_of_lt (Nat.add_le_add_left (Nat.min_le_left _ _) _) (hu d hd)
    obtain ⟨r1, rfl⟩ := ht2 d hd
    obtain ⟨r2, rfl⟩ := ht2 d' hd'
    rw [keyLt'_oneType]
    exact oneLt_tupZ ra rb (by simpa [alike] using hdd) hroom hq
  · cases e with
    | @cons v₁ _ vs _ r1 r2 =>
      obtain ⟨as, r1⟩ := r1
      refine kind_tupZ (reads_tup0Z r1) (fun v hv => ?_) hq
      obtain ⟨d, hd, as, r⟩ := r2.left v hv
      obtain ⟨r', rfl⟩ := ht d hd
      exact reads_tupZ r
end
end PySem.W
namespace PySem.W
open PySem PySem.Calls PyProof.Rows PySem.SeqAt
section
variable {prog : Program} {w : World} {A : Around} {E : Value → Shared → Prop} {s : Shared} {β : Type} {R : Value → β → Prop} {enc : β → PyData} {b0 : β} {bs : List β} {vs : List Value}
theorem sorted_tupZ {l : Addr} {Q : Value → Shared → Prop} (h0 : enc b0 = .tuple []) (ht : ∀ b, b ∈ bs → ∃ r, enc b = .tuple r) (hl : s.heap.IsList l vs.toArray) (e : EachIs R vs (b0 :: bs)) (er : EachIs (fun v b => ∃ as, Reads s.heap v (enc b) as) vs (b0 :: bs)) (hal : AllAlike ((b0 :: bs).map enc)) (hL : (b0 :: bs).length ≤ sizeLine)
    (hu : ∀ b, b ∈ b0 :: bs → A.units + 2 + (enc b).depth < cLine) (h : ∀ out, out.length = (b0 :: bs).length → EachIs R out ((b0 :: bs).mergeSort (dataLe false enc)) → Q (.ref (s.heap.objs.size + 1)) { s with heap := sortedAll s.heap vs (List.toArray out) }) :
    wpAny (model prog w) A (call (.builtin "sorted") [.ref l]) Q E s := by
  have er' : EachIs (fun v b => ∃ as, Reads (sortingHeap (copyHeap s.heap vs) (s.heap.objs.size + 1) vs) v (enc b) as) vs (b0 :: bs) := er.mono fun _ _ ⟨as, r⟩ => ⟨as, PyProof.Rows.Reads.keeps (fun _ _ => sorting_copy_old) r⟩
  have em := each_map (R := fun v d => ∃ as, Reads (sortingHeap (copyHeap s.heap vs) (s.heap.objs.size + 1) vs) v d as) enc er'
  have bm := bound_map (A := A.in1.in1) (enc := enc) (bs := b0 :: bs) hu
  have hal2 := hal
  rw [List.map_cons, h0] at em bm hal2
  refine sorted_vals (κ := dataKind (sortingHeap (copyHeap s.heap vs) (s.heap.objs.size + 1) vs) ((b0 :: bs).map enc)) hl ?_ (by rw [e.length]; exact hL) (h _ (by rw [sortVals_length false rfl]; exact e.length) (sortVals_data false e er' hal))
  rw [List.map_cons, h0]
  refine SortsAt.tupZ (s := { s with heap := sortingHeap (copyHeap s.heap vs) (s.heap.objs.size + 1) vs }) em hal2 (fun d hd => ?_) bm
  obtain ⟨b, hb, rfl⟩ := List.mem_map.mp hd
  exact ht b hb
end
end PySem.W
namespace L2
open PySem PySem.Spec PyProof.Rows PySem.W
section
variable {X : Cx} {pins : List (Addr × Obj)} {σ : St} {H : Hp} {s : Shared}
/-- sorted(xs): the items ascending as tuples are -/
def rSortT0 (K : PySem.W.Frag) : List V → Hp → VK → Prop := fun vs H Q => ∃ (a : Addr) (xs : List V) (bs : List (List Int)), vs = [V.ref a] ∧ SqL K H a xs ∧ Paired (TupI K H) xs ([] :: bs) ∧
  ∀ (ys : List V) (p : Addr), Paired (TupI K H) ys (([] :: bs).mergeSort fun p q => decide (p ≤ q)) → H p = none → Q (.ref p) (upd H p (.lst ys))
theorem cr_sortT0 (hu : X.A.units + 65 < cLine) : CallR X (.builtin "sorted") (rSortT0 X.K) := by
  intro pins s σ H vs us Q I r h
  obtain ⟨a, xs, bs, rfl, hs, hp, q⟩ := h
  obtain ⟨its, rv, hl, hz⟩ := I.list hs
  rw [Vals.ref1 r]
  have e0 : EachIs (TupV X.K H) its ([] :: bs) := tupV_of hp rv
  have hlen : ([] :: bs).length = xs.length := (Paired.length hp).symm
  refine sorted_tupZ (A := X.A) (R := TupV X.K H) (enc := tupE) rfl (fun b _ => ⟨_, rfl⟩) hl.isList e0 (e0.mono fun u ns h => tupV_reads I h) (AllAlike.of fun b b' => by simp [alike, alike_ints]) (by rw [hlen]; exact hz) (fun b _ => ?_) fun out ho eo => ?_
  · have : (tupE b).depth ≤ 1 := by simp [PyData.depth, depth_ints]
    omega
  · rw [tupE_le] at eo
    obtain ⟨e1, e2⟩ := tupV_to eo
    obtain ⟨ep, he'⟩ := PyProof.Rows.sortedAll_at s.heap its out.toArray
    have hz2 : (out.map bkV).length ≤ sizeLine := by
      rw [List.length_map, ho, hlen]
      exact hz
    exact ⟨.ref _, upd H (s.heap.objs.size + 1) (.lst (out.map bkV)), I.laid (t' := s.toks) (fun _ _ => PyProof.Rows.sortedAll_old) (Nat.le_succ _) ⟨hz2, out, ep, bkV_vals e2, he'⟩, rfl, q _ _ e1 (I.hok.fresh (Nat.le_succ _))⟩
end
end L2

set_option Elab.async false
set_option linter.all false
set_option maxRecDepth 100000
set_option maxHeartbeats 4000000
/-! o.m(e, .., k = v, ..); an expression read in one of two ways -/
namespace L2
open PySem PySem.Spec PyProof.Rows PySem.W
/-- a method with keywords -/
def tMethN (C : Addr) (m : Str) (n j : Nat) (sp : Sp) (gV : List V → List V → List V) (E : XK) (ta : TE) (t tk : TA) : TE := fun σ H Q => ta σ H fun x H1 => ∃ a dx fs, x = .ref a ∧ H1 a = some (.ins C dx fs) ∧ fs.lookup m = none ∧
  t σ H1 fun vs H2 => tk σ H2 fun zs H3 => vs.length = n ∧ zs.length = j ∧ sp (gV (x :: vs) zs) H3 Q E
section
variable {X : Cx} {CX : CXT} {k n : Nat} {f C : Addr} {fd : FuncData} {ps ks : List Str} {sp : Sp} {E : XK} {m : Str} {pos apos : Pos} {e o : Expr} {es : List Expr} {kws : List Keyword} {ta : TE} {t tk : TA} {g : List Value → List Value → List Value} {gV : List V → List V → List V}
theorem pe_methN {pl : Sem Bool} (he : PE X o ta) (c : Cls X.K C) (hm : Meth X.K C m f) (F : FnOk X.prog X.w X.K X.mg X.base CX k f fd ps sp) (hr : Room k X.A) (hb : KBn X.K fd ps (n + 1) ks g gV) (hx : Passes CX X E) (ha : PA X (e :: es) t) (hkw : PK X kws tk)
    (hall : (backToKw pos (keywordEach kws X.env)).all (·.1.isSome) = true := by rfl) (hks : (backToKw pos (keywordEach kws X.env)).filterMap (·.1) = ks := by rfl)
    (hst : starEach (e :: es) X.env = (false, eval e X.env) :: starEach es X.env := by rfl) (hpl : ((backTo pos (starEach (e :: es) X.env)).any (·.1) || (backToKw pos (keywordEach kws X.env)).any (·.1.isNone)) = false := by rfl)
    (ht : eval (.Call (.Attribute o m apos) (e :: es) kws pos) X.env = (do
      let ov ← eval o X.env
      standAt apos.atName
      let (f, first) ← holding [ov] (getMethod ov m pl)
      callWith pos f first (backTo pos (starEach (e :: es) X.env)) (backToKw pos (keywordEach kws X.env))) := by rfl) :
    PE X (.Call (.Attribute o m apos) (e :: es) kws pos) (tMethN C m n ks.length sp gV E ta t tk) := by
  refine ⟨fun pins s σ H Q I h => ?_⟩
  refine PySem.W.methodCall_KW (pl := pl) (thn (he.run pins s σ H _ I h) fun u s1 ⟨x, H1, I1, rx, a, dx, fs, ex, ea, l, q⟩ => ?_) ht
  subst ex
  obtain rfl : u = Value.ref a := rx
  refine getmeth_ok I1 ea c hm l ?_
  refine PySem.W.callWith_KW (first := [.ref a]) (h₀ := X.base) I.ok.mod.kin hm.kp hall (thn (ha.run pos pins s1 σ H1 _ I1 q) fun us s2 ⟨vs, H2, I2, r, q2⟩ => ?_) hpl hst
  refine thn (hkw.run pos pins s2 σ H2 _ I2 q2) fun ws s3 ⟨zs, H3, I3, rz, l1, l2, q3⟩ => ⟨I3.kIn, ?_⟩
  rw [hks]
  exact run_fnN (us := .ref a :: us) (vs := .ref a :: vs) F hr hb hx I3 (.cons rfl r) rz (by rw [List.length_cons, l1]) l2 q3
/-- an expression that may be read in two ways -/
theorem pe_two {a : Expr} {t1 t2 : TE} (h1 : PE X a t1) (h2 : PE X a t2) : PE X a (fun σ H Q => t1 σ H Q ∨ t2 σ H Q) :=
  ⟨fun pins s σ H Q I h => h.elim (h1.run pins s σ H Q I) (h2.run pins s σ H Q I)⟩
end
end L2

set_option Elab.async false
set_option linter.all false
set_option maxRecDepth 100000
set_option maxHeartbeats 4000000
/-! zip over two tuples, as a walk; != of own objects of two classes -/
namespace L2
open PySem PySem.Spec PyProof.Rows
theorem walk_zipT {K : PySem.W.Frag} {a b : Addr} {xs ys : List V} {n : Nat} (hn : n = min xs.length ys.length) : Walk (RZ.ItzT K a b) n (fun H => SqT K H a xs ∧ SqT K H b ys) (YPair (fun i => xs[i]?) (fun i => ys[i]?)) := by
  subst hn
  refine ⟨fun i _ hi q => ?_, fun _ q => ⟨xs, ys, q.1, q.2, by omega⟩, fun i H v H' _ q y => ?_⟩
  · have h1 : i < xs.length := by omega
    have h2 : i < ys.length := by omega
    exact ⟨xs, ys, xs[i], ys[i], q.1, q.2, by simp [h1], by simp [h2]⟩
  · obtain ⟨T, x, z, h1, h2, h3, h4, h5⟩ := y
    exact ⟨T, x, z, h1, h2, h3, h4 xs q.1, h5 ys q.2⟩
end L2
namespace Tw
open PySem PySem.Spec PyProof.Rows L2
open PySem.W (InstAt looks_findIn looks_subIn ifBound_K cmp_K)
section
variable {X : Cx} {CX : CXT} {k : Nat} {f C D : Addr} {fd : FuncData} {ps : List Str} {sp : Sp} {E : XK}
/-- != where the other one is an object of another class -/
def rNeD (C D : Addr) (sp : Sp) (E : XK) : R2 := fun x y H Q =>
  ∃ a dx fs b dy gs, x = .ref a ∧ H a = some (.ins C dx fs) ∧ y = .ref b ∧ H b = some (.ins D dy gs) ∧ sp [.ref a, y] H (fun v H' => ∃ r, v = .bl r ∧ Q (.bl (!r)) H') E
theorem op_ne_two (c : EqC X.K C f) (hd : PySem.W.notFirst X.K C (.ref D) = true) (F : FnOk X.prog X.w X.K X.mg X.base CX k f fd ps sp) (hr : Room (k + 1) X.A) (hb : Binds X.K fd ps []) (hx : Passes CX X E) : OpR X (compareOp .NotEq) (rNeD C D sp E) := by
  intro pins s σ H x y v u Q I rx ry ⟨a, dx, fs, b, dy, gs, ex, ha, ey, hb2, q⟩
  subst ex
  subst ey
  obtain rfl : v = Value.ref a := rx
  obtain rfl : u = Value.ref b := ry
  obtain ⟨mA, O, rr, _, _, _⟩ := ins_get I.hok ha
  obtain ⟨od, J, hl⟩ := O.look
  obtain ⟨mB, OB, rrB, _, _, _⟩ := ins_get I.hok hb2
  obtain ⟨odB, JB, hlB⟩ := OB.look
  obtain ⟨m0, hF⟩ := I.fr
  show wpAny _ _ (richCompare .NotEq (.ref a) (.ref b)) _ _ _
  refine ne_K (Room.units0 hr.in1) hr.units0 hF I.ok.mod.kin J JB.type hd c (thn (run_sub F (Sub.in1 ⟨hr, rfl⟩) hb hx I (.cons (relR a) (.cons (relR b) .nil)) q) fun r s' ⟨z, H', I', rz, b2, ez, q'⟩ => ?_)
  subst ez
  exact ⟨b2, rz, _, H', I', relB (!b2), q'⟩
end
end Tw

set_option Elab.async false
set_option linter.all false
set_option maxRecDepth 100000
set_option maxHeartbeats 2000000
/-! own rules: xs.count(k), t.count(k) (whole numbers); sum(d.values()) -/
namespace L2
open PySem PySem.Spec PyProof.Rows L2
theorem plain_ints : ∀ ns : List Int, PyData.plainAll (ns.map PyData.int) = true
  | [] => rfl
  | n :: ns => by
    simp only [List.map_cons, PyData.plainAll, plain_ints ns]
    rfl
theorem count_ints (k : Int) : ∀ ns : List Int, (ns.map PyData.int).countP (fun y => PyData.eqv y (.int k)) = ns.count k
  | [] => rfl
  | n :: ns => by
    rw [List.map_cons, List.countP_cons, count_ints k ns, List.count_cons]
    have e : PyData.eqv (.int n) (.int k) = (n == k) := rfl
    rw [e]
theorem dpAll_ints (K : PySem.W.Frag) (H : Hp) : ∀ ns : List Int, DpAll K H (ns.map V.int) (ns.map PyData.int)
  | [] => .nil
  | n :: ns => .cons (.int n) (dpAll_ints K H ns)
section
variable {X : Cx}
def rCountL (K : PySem.W.Frag) : V → List V → Hp → VK → Prop := fun x vs H Q => ∃ (a : Addr) (ns : List Int) (k : Int), x = .ref a ∧ vs = [.int k] ∧ SqL K H a (ns.map V.int) ∧ Q (.int (ns.count k : Nat)) H
def rCountT (K : PySem.W.Frag) : V → List V → Hp → VK → Prop := fun x vs H Q => ∃ (a : Addr) (ns : List Int) (k : Int), x = .ref a ∧ vs = [.int k] ∧ SqT K H a (ns.map V.int) ∧ Q (.int (ns.count k : Nat)) H
theorem mt_countL (hu : X.A.units + 65 < cLine) : MtR X "list.count" (rCountL X.K) := by
  intro pins s σ H x xs v us Q I rx rxs h
  obtain ⟨a, ns, k, rfl, rfl, hl, q⟩ := h
  cases rx
  cases rxs with
  | cons ry rt =>
    rename_i uy ut
    cases rt
    obtain ⟨its, rv, pl, hlen⟩ := I.list hl
    obtain ⟨as, h4⟩ := Dp.readsAll I (ns.map PyData.int) _ its (dpAll_ints _ _ ns) rv
    obtain ⟨bs, r1⟩ := Dp.reads I (.int k) _ uy (.int k) ry
    refine PySem.SeqAt.count_list_data (xs := ns.map PyData.int) (d := .int k) pl.isList h4 r1 (plain_ints ns) rfl (Nat.lt_of_le_of_lt (Nat.add_le_add_left (Nat.min_le_right _ _) _) (by simp only [PyData.depth]; omega)) ?_
    rw [count_ints]
    exact ⟨.int _, H, I.tok _, ⟨_, rfl⟩, q⟩
theorem mt_countT (hu : X.A.units + 65 < cLine) : MtR X "tuple.count" (rCountT X.K) := by
  intro pins s σ H x xs v us Q I rx rxs h
  obtain ⟨a, ns, k, rfl, rfl, hl, q⟩ := h
  cases rx
  cases rxs with
  | cons ry rt =>
    rename_i uy ut
    cases rt
    obtain ⟨its, rv, pl, hlen⟩ := I.tuple hl
    obtain ⟨as, h4⟩ := Dp.readsAll I (ns.map PyData.int) _ its (dpAll_ints _ _ ns) rv
    obtain ⟨bs, r1⟩ := Dp.reads I (.int k) _ uy (.int k) ry
    refine PySem.SeqAt.count_tuple_data (xs := ns.map PyData.int) (d := .int k) pl h4 r1 (plain_ints ns) rfl (Nat.lt_of_le_of_lt (Nat.add_le_add_left (Nat.min_le_right _ _) _) (by simp only [PyData.depth]; omega)) ?_
    rw [count_ints]
    exact ⟨.int _, H, I.tok _, ⟨_, rfl⟩, q⟩
theorem preSum_list : ∀ (is : List Int) (n : Nat), preSum (fun i => is.getD i 0) n = (is.take n).sum := by
  intro is n
  induction n with
  | zero => rfl
  | succ n ih =>
    rw [preSum, ih]
    by_cases h : n < is.length
    · rw [← List.take_append_getElem h, List.sum_append, List.getD_eq_getElem?_getD, List.getElem?_eq_getElem h]
      simp
    · rw [List.take_of_length_le (by omega), List.take_of_length_le (by omega), List.getD_eq_getElem?_getD, List.getElem?_eq_none (by omega)]
      simp
/-- sum(o.values()), a dict with int values -/
def tSumVals (td : TE) : TE := fun σ H Q => td σ H fun x H1 => ∃ (a : Addr) (kvs : List (Key × V)) (is : List Int), x = V.ref a ∧ H1 a = some (.dK kvs) ∧ kvs.map (·.2) = is.map V.int ∧ Q (.int is.sum) H1
variable {o : Expr} {p pos apos mpos : Pos} {td : TE}
theorem pe_sumVals (hc : X.calm = true) (hg : Gl X "sum") (hm : X.mg "sum" = none) (hd : PE X o td) (hbase : attributeBase o "values" X.env (eval o X.env) = eval o X.env := by rfl) (hline : (apos.endLine == mpos.line) = true := by rfl)
    (hse : starEach [Expr.Call (.Attribute o "values" apos) [] [] mpos] X.env = [(false, eval (Expr.Call (.Attribute o "values" apos) [] [] mpos) X.env)] := by rfl) :
    PE X (.Call (.Name "sum" p) [.Call (.Attribute o "values" apos) [] [] mpos] [] pos) (tSumVals td) := by
  refine ⟨fun pins s σ H Q I h => ?_⟩
  refine wpAny_Call_Name_kw (ld_blt I hg hm (u := .builtin "sum") (by first | rfl | decide +kernel) ?_ (by first | decide +kernel | decide) (by first | decide +kernel | decide))
  rw [hse]
  refine PySem.callWith_builtin1 (wpAny_Call_method0_late hbase hline (thn (hd.run pins s σ H _ I h) fun v s1 ⟨x, H1, I1, r1, a, kvs, is, ex, ha, hv, q⟩ => ?_))
  subst ex
  obtain rfl : v = Value.ref a := r1
  obtain ⟨_, hsys, vs, rel, dof⟩ := dk_of I1.hok ha
  obtain ⟨ep, dat⟩ := dof.dictAt
  have dat' := dat
  obtain ⟨ob, es, ho, ex, hdat, hko, hpr, hnd⟩ := dat'
  refine ⟨"dict", "dict.values", F.plainAttrs_dict, F.slot_dict_values, F.type_dict_values, ⟨ob, ho, ex.1⟩, fun b e => ?_, Calls.callWith_builtin rfl (PySem.evalArgs_none ?_)⟩
  · cases e
    exact ⟨ob, ho, ex.2.1⟩
  refine call_meetsIn F.slot_dict_values ⟨ob, ho, ex.1⟩ F.entry_dict_values (F.args_dict_values_1 _) (meets_dict_values (mixKind X.prog X.w) a hsys) ⟨⟨vs, dof⟩, ?_⟩
  have k1 : ∀ b u, s1.heap.get? b = some u → (s1.heap.push { cls := .type "dict_values", data := .fields #[.ref a] }).get? b = some u := fun b u e => Heap.get?_push_of_some _ e
  have dat1 : (s1.heap.push { cls := .type "dict_values", data := .fields #[.ref a] }).DictAt (mixKind X.prog X.w) a vs ep := dat.keep k1
  have hlv : vs.length = is.length := by
    have e1 := congrArg List.length hv
    rw [List.length_map, List.length_map] at e1
    rw [← e1]
    exact (KV.length rel).symm
  have hval : ∀ (i : Nat) (v : Value), (∃ k, vs[i]? = some (k, v)) → ∃ t, v = Value.int (is.getD i 0) t := fun i v ⟨k, hk⟩ => by
    obtain ⟨x, h1, h2⟩ := KV.at' rel hk
    have e1 : (kvs.map (·.2))[i]? = some x := by rw [List.getElem?_map, h1] <;> rfl
    rw [hv, List.getElem?_map] at e1
    obtain ⟨j, hj, e2⟩ := Option.map_eq_some_iff.mp e1
    subst e2
    obtain ⟨t, e3⟩ := h2
    refine ⟨t, ?_⟩
    rw [e3, List.getD_eq_getElem?_getD, hj] <;> rfl
  refine call_sum_walkG (wpAny_pyIter_values (v := s1.heap.objs.size) (d := a) ⟨_, Heap.get?_push_size _ rfl, rfl, rfl⟩ dat1 ?_)
  have hlt : a < s1.heap.objs.size := Heap.lt_size ho
  have hsz : (s1.heap.push { cls := .type "dict_values", data := .fields #[.ref a] }).objs.size = s1.heap.objs.size + 1 := Heap.size_push _ _
  refine ⟨_, _, _, _, _, _, fun i => is.getD i 0, rfl, Walks.dictValues (knd := mixKind X.prog X.w) (A := X.A.in1) (I.ok.hd hc) (s1.heap.push { cls := .type "dict_values", data := .fields #[.ref a] }).objs.size a (by rw [hsz]; exact Nat.ne_of_lt (Nat.lt_succ_of_lt hlt)) vs ep,
    ⟨⟨_, Heap.get?_push_size _ rfl, rfl, rfl⟩, dat1.keep fun b u e => Heap.get?_push_of_some _ e⟩, fun b hb => ?_, hval, fun h' tk t' hk => ?_⟩
  · show b < ((s1.heap.push _).push _).objs.size
    rw [Heap.size_push, Heap.size_push]
    rw [hsz] at hb
    rcases List.mem_cons.mp hb with e | hb
    · rw [e]
      exact Nat.lt_succ_self _
    · have e : b = a := List.mem_singleton.mp hb
      rw [e]
      exact Nat.lt_succ_of_lt (Nat.lt_succ_of_lt hlt)
  · rw [preSum_list, hlv, List.take_length]
    refine ⟨.int _, H1, I1.kept (t' := tk) fun b u e => hk b u (fun hmem => ?_) (Heap.get?_push_of_some _ (k1 b u e)), ⟨t', rfl⟩, q⟩
    have e1 : b = (s1.heap.push { cls := .type "dict_values", data := .fields #[.ref a] }).objs.size := List.mem_singleton.mp hmem
    have e2 := Heap.lt_size e
    rw [hsz] at e1
    rw [e1] at e2
    exact absurd e2 (Nat.not_lt.mpr (Nat.le_succ _))
end
/-- a dict by a comprehension, over any walk -/
theorem dc_it {J : It} {n : Nat} {G : Hp → Prop} {Y : Nat → Hp → V → Hp → Prop} (w : Walk J n G Y) {g : TG} {tt : TT} {tk tv : TE} {vs : List Nat} {σ : St} {H1 : Hp} {D : Addr} {Qd : Hp → Prop} (Pv : Nat → Hp → Prop) (h0 : Pv 0 (upd H1 D (.dK []))) (hG : ∀ i H, i ≤ n → Pv i H → G H)
    (hs : ∀ i x H H', i < n → Pv i H → Y i H x H' → g x (wipe σ vs) H' fun σ2 H2 => wipe σ2 vs = wipe σ vs ∧ tt σ2 H2 fun b H3 =>
      if b = true then tk σ2 H3 fun y H4 => tv σ2 H4 fun z H5 => ∃ kvs k, y = kV k ∧ H5 D = some (.dK kvs) ∧ kvs.length < sizeLine ∧ Pv (i + 1) (upd H5 D (.dK (putK kvs k z))) else Pv (i + 1) H3) (hd : ∀ H, Pv n H → Qd H) :
    ∃ W : Nat → Nat → Hp → Prop, (∃ m, W 0 m (upd H1 D (.dK []))) ∧ ∀ i m H, W i m H →
      (J.stop i H ∧ Qd H) ∨ (J.go i H ∧ ∃ Nx : Hp → Prop, (∀ H', Nx H' → ∃ m', m' < m ∧ W (i + 1) m' H') ∧ ∀ x H', J.yld i H x H' → g x (wipe σ vs) H' fun σ2 H2 => wipe σ2 vs = wipe σ vs ∧ tt σ2 H2 fun b H3 =>
        if b = true then tk σ2 H3 fun y H4 => tv σ2 H4 fun z H5 => ∃ kvs k, y = kV k ∧ H5 D = some (.dK kvs) ∧ kvs.length < sizeLine ∧ Nx (upd H5 D (.dK (putK kvs k z))) else Nx H3) := by
  refine ⟨fun i m H => m = n - i ∧ i ≤ n ∧ Pv i H, ⟨n, by simp, Nat.zero_le _, h0⟩, ?_⟩
  rintro i m H ⟨rfl, hi, p⟩
  have q := hG i H hi p
  by_cases hlt : i < n
  · refine .inr ⟨w.goes i H hlt q, Pv (i + 1), fun H' p' => ⟨n - (i + 1), by omega, rfl, hlt, p'⟩, fun x H' y => hs i x H H' hlt p (w.yields i H x H' hlt q y)⟩
  · have e : i = n := by omega
    subst e
    exact .inl ⟨w.stops H q, hd H p⟩
/-- what stays while a thing is locked stays behind -/
theorem same_lock {H H' : Hp} {d : Addr} {u v : HO} (h : H d = some u) (s : Same (upd H d v) H') : Same H (upd H' d u) := fun b o e => by
  by_cases hb : b = d
  · subst hb
    rw [upd_same, ← h, e]
  · rw [upd_ne hb]
    exact s b o (by rw [upd_ne hb]; exact e)
theorem ite_b {b c : Bool} {A B : Prop} (h : b = c) (k : if c = true then A else B) : if b = true then A else B := h ▸ k
/-- set(xs), xs a list or a tuple of whole numbers -/
def rSetSq (K : PySem.W.Frag) (w : World) : List V → Hp → VK → Prop := fun xs H Q => ∃ (l : Addr) (ns : List Int), xs = [V.ref l] ∧ (SqL K H l (ns.map V.int) ∨ SqT K H l (ns.map V.int)) ∧ ns.length ≤ 1000 ∧ ∀ p n, n ≤ ns.length → H p = none → Q (.ref p) (upd H p (SetO w p (fun j => decide (j ∈ ns)) n))
theorem cr_setSq {X : Cx} (hc : X.calm = true) : CallR X (.type "set") (rSetSq X.K X.w) := by
  intro pins s σ H vs us Q I rv ⟨l, ns, e, h, hl, q⟩
  rcases h with h | h
  · exact cr_setLI hc pins s σ H vs us Q I rv ⟨l, ns, e, h, hl, q⟩
  · exact cr_setTI hc pins s σ H vs us Q I rv ⟨l, ns, e, h, hl, q⟩
end L2

set_option Elab.async false
set_option linter.all false
set_option maxRecDepth 100000
set_option maxHeartbeats 2000000
/-! own rules: tuples of which it is known that they have no dict of their own: their methods -/
namespace L2
open PySem PySem.Spec PyProof.Rows L2
/-- a tuple that was made by tuple(..), with the object that it is -/
def TupF (H : Hp) (a : Addr) (xs : List V) : Prop := ∃ o : Obj, H a = some (.frz o (.tup xs)) ∧ o.dict = none
theorem TupF.same {H H' : Hp} {a : Addr} {xs : List V} (h : TupF H a xs) (s : Same H H') : TupF H' a xs := let ⟨o, e, d⟩ := h; ⟨o, s _ _ e, d⟩
theorem TupF.sq {K : PySem.W.Frag} {H : Hp} {a : Addr} {xs : List V} (h : TupF H a xs) : SqT K H a xs := let ⟨o, e, _⟩ := h; .inl (.inr ⟨o, e⟩)
section
variable {X : Cx}
/-- tuple(xs) of a list; of such a tuple itself -/
def rTupF (K : PySem.W.Frag) : List V → Hp → VK → Prop := fun xs H Q => ∃ p ys, xs = [V.ref p] ∧ ((SqL K H p ys ∧ ∀ l o, H l = none → o.dict = none → Q (.ref l) (upd H l (.frz o (.tup ys)))) ∨ (SqT K H p ys ∧ Q (.ref p) H))
theorem call_tupF : CallR X (.type "tuple") (rTupF X.K) := by
  intro pins s σ H xs us Q I r h
  obtain ⟨p, ys, rfl, h⟩ := h
  rcases h with ⟨hq, q⟩ | ⟨hq, q⟩
  · obtain ⟨u, rfl, rx⟩ := vals1 r
    cases rx
    obtain ⟨its, r', pl, hz⟩ := I.list hq
    have hlen := r'.length
    refine call_tuple_list pl.isList (fun h' kp => ?_) (by simp only [List.size_toArray] <;> omega)
    have I1 : Inv X pins σ H { s with heap := h' } := I.kept (t' := s.toks) kp
    have I2 : Inv X pins σ (upd H h'.objs.size (.frz { cls := .type "tuple", data := .seq its.toArray } (.tup ys))) { s with heap := h'.push { cls := .type "tuple", data := .seq its.toArray } } :=
      I1.laid (t' := s.toks) (fun b o e => Heap.get?_push_of_some _ e) (Nat.le_refl _) (show ObjOk X.prog X.w _ _ _ (.frz _ (.tup ys)) from ⟨Heap.get?_push_size _ rfl, hz, its, r', IsTup.new _ _⟩)
    exact ⟨.ref h'.objs.size, _, I2, rfl, q _ _ (I1.hok.fresh (Nat.le_refl _)) rfl⟩
  · exact call_tuple_of pins s σ H _ us Q I r ⟨p, ys, rfl, .inr ⟨hq, q⟩⟩
def tBMF (r : V → List V → Hp → VK → Prop) (to : TE) (t : TA) : TE := fun σ H Q => to σ H fun x H1 => (∃ a xs, x = .ref a ∧ TupF H1 a xs) ∧ t σ H1 fun xs H2 => r x xs H2 Q
variable {o e : Expr} {es : List Expr} {to : TE} {t : TA} {name : Str} {apos cpos : Pos} {T id : String} {r : V → List V → Hp → VK → Prop}
theorem pe_bmF (slot : Slot "tuple" name id) (hty : typeOf (.builtin id) = pure (.type "method_descriptor")) (hm : MtR X id r) (ho : PE X o to) (ha : PA X (e :: es) t)
    (hbase : attributeBase o name X.env (eval o X.env) = eval o X.env := by rfl)
    (hfew : ((backTo cpos (starEach (e :: es) X.env)).all (fun x => !x.1) && (backToKw cpos (keywordEach [] X.env)).all (fun x => x.1.isSome)
      && decide ((e :: es).length + ([] : List Keyword).length + (if ([] : List Keyword).isEmpty then 0 else 1) < 30)) = true := by rfl)
    (hline : (apos.endLine == cpos.line) = true := by rfl) (hs : starEach (e :: es) X.env = (false, eval e X.env) :: starEach es X.env := by rfl) (hplain : (backTo cpos (starEach es X.env)).any (·.1) = false := by rfl) :
    PE X (.Call (.Attribute o name apos) (e :: es) [] cpos) (tBMF r to t) := by
  refine ⟨fun pins s σ H Q I h => ?_⟩
  refine wpAny_Call_method_late hbase hfew hline rfl (thn (ho.run pins s σ H _ I h) fun v s1 ⟨x, H1, I1, r1, ty, q1⟩ => ?_)
  obtain ⟨a, xs, rfl, oo, ho2, hd⟩ := ty
  cases r1
  obtain ⟨g1, g2⟩ := I1.hok a _ ho2
  obtain ⟨hz, its, rv, hit⟩ := g2
  obtain ⟨o2, e2, hc, n2, hdat⟩ := hit
  rw [g1] at e2
  cases e2
  refine ⟨"tuple", id, F.plainAttrs_tuple, slot, hty, ⟨_, g1, hc⟩, fun b eb => ?_, ?_⟩
  · cases eb
    exact ⟨_, g1, hd⟩
  have hA := ha.run cpos pins s1 σ H1 _ I1 q1
  rw [hs] at hA ⊢
  refine Calls.callWith_builtin (by show (false || (backTo cpos (starEach es X.env)).any (·.1)) = false; rw [hplain] <;> rfl) (Calls.evalArgs_plain ?_)
  exact thn hA fun us s2 ⟨vs, H2, I2, r2, q2⟩ => hm pins s2 σ H2 (.ref a) vs _ us Q I2 (show RelV (.ref a) (Value.ref a) from rfl) r2 q2
theorem lay_ints : ∀ ns : List Int, PyData.canLayAll0 (ns.map PyData.int) = true
  | [] => rfl
  | n :: ns => by
    rw [List.map_cons, PyData.canLayAll0, lay_ints ns]
    rfl
/-- t.index(k), whole numbers, k there -/
def rIndexT (K : PySem.W.Frag) : V → List V → Hp → VK → Prop := fun x vs H Q => ∃ (a : Addr) (ns : List Int) (k : Int) (j : Nat), x = .ref a ∧ vs = [.int k] ∧ SqT K H a (ns.map V.int) ∧ ns[j]? = some k ∧ (∀ m, m < j → ns[m]? ≠ some k) ∧ Q (.int (j : Nat)) H
theorem mt_indexTI (hu : X.A.units + 65 < cLine) : MtR X "tuple.index" (rIndexT X.K) := by
  intro pins s σ H x xs v us Q I rx rxs h
  obtain ⟨a, ns, k, j, rfl, rfl, hl, hj, hno, q⟩ := h
  cases rx
  cases rxs with
  | cons ry rt =>
    rename_i uy ut
    cases rt
    obtain ⟨its, rv, pl, hlen⟩ := I.tuple hl
    obtain ⟨as, h4⟩ := Dp.readsAll I (ns.map PyData.int) _ its (dpAll_ints _ _ ns) rv
    obtain ⟨bs, r1⟩ := Dp.reads I (.int k) _ uy (.int k) ry
    have hjl := (List.getElem?_eq_some_iff.mp hj).1
    have hvl := rv.length
    rw [List.length_map] at hvl hlen
    obtain ⟨⟨cls, dd, data, sl⟩, ho, hc, n, hd'⟩ := id pl
    simp only at hc hd'
    subst hc hd'
    have hxs : PyData.canLayAll0 (ns.map PyData.int) = true := lay_ints ns
    have hmap : its.map (SeqAt.readOf s.heap) = ns.map PyData.int := SeqAt.readsAll_map _ its as hxs h4
    have at_ : ∀ (m : Nat) (hm : m < its.toArray.size) (z : Int), ns[m]? = some z → SeqAt.readOf s.heap its.toArray[m] = .int z := by
      intro m hm z hz
      have hml : m < its.length := by simpa using hm
      have e1 : (its.map (SeqAt.readOf s.heap))[m]? = some (.int z) := by rw [hmap, List.getElem?_map, hz]; rfl
      rw [List.getElem?_map, List.getElem?_eq_getElem hml] at e1
      have e2 : SeqAt.readOf s.heap its[m] = .int z := Option.some.inj e1
      simpa using e2
    have hj2 : j < its.toArray.size := by simp only [List.size_toArray]; omega
    refine call_meets F.slot_tuple_index ⟨_, ho, rfl⟩ F.entry_tuple_index (F.args_tuple_index_2 _ _)
      (TI.tuple_indexAt a its.toArray n dd sl uy (fun u => PyData.eqv (SeqAt.readOf s.heap u) (.int k)) j hj2 ?_ ?_) ⟨ho, SeqAt.items_eqAt (vs := its.toArray) (show ReadsAll s.heap its.toArray.toList (ns.map PyData.int) as from h4) r1 hxs rfl (Nat.lt_of_le_of_lt (Nat.add_le_add_left (Nat.min_le_right _ _) _) (by simp only [PyData.depth]; omega)), ?_⟩
    · show PyData.eqv (SeqAt.readOf s.heap its.toArray[j]) (.int k) = true
      rw [at_ j hj2 k hj]
      show (k == k) = true
      exact beq_self_eq_true k
    · intro m hm hmj
      have hmn : m < ns.length := by simp only [List.size_toArray] at hm; omega
      have hz : ns[m]? = some ns[m] := List.getElem?_eq_getElem hmn
      show PyData.eqv (SeqAt.readOf s.heap its.toArray[m]) (.int k) = false
      rw [at_ m hm _ hz]
      show (ns[m] == k) = false
      exact beq_eq_false_iff_ne.mpr fun z => hno m hmj (by rw [hz, z])
    · exact ⟨.int (j : Nat), H, I.tok _, ⟨_, rfl⟩, q⟩
/-- x.count(y), two names, x a list or a known tuple of whole numbers -/
def tCnt (K : PySem.W.Frag) (i j : Nat) : TE := fun σ H Q => ∃ (a : Addr) (ns : List Int) (k : Int), σ[i]? = some (some (.ref a)) ∧ σ[j]? = some (some (.int k)) ∧ (SqL K H a (ns.map V.int) ∨ TupF H a (ns.map V.int)) ∧ Q (.int (ns.count k : Nat)) H
theorem pe_cnt {e : Expr} {i j : Nat} (h1 : PE X e (tBM X.K "list" (rCountL X.K) (tVar i) (tCons (tVar j) tNil))) (h2 : PE X e (tBMF (rCountT X.K) (tVar i) (tCons (tVar j) tNil))) : PE X e (tCnt X.K i j) := by
  refine ⟨fun pins s σ H Q I h => ?_⟩
  obtain ⟨a, ns, k, e1, e2, h, q⟩ := h
  rcases h with h | h
  · exact h1.run pins s σ H Q I ⟨_, e1, .inl ⟨rfl, _, h⟩, _, e2, a, ns, k, rfl, rfl, h, q⟩
  · exact h2.run pins s σ H Q I ⟨_, e1, ⟨a, _, rfl, h⟩, _, e2, a, ns, k, rfl, rfl, h.sq, q⟩
end
/-- two promises of one def -/
theorem FnOk.or {P : Program} {w : World} {K : PySem.W.Frag} {mg : Str → Option Value} {base : Heap} {CX : CXT} {k : Nat} {f : Addr} {fd : FuncData} {ps : List Str} {s1 s2 : Sp} (F1 : FnOk P w K mg base CX k f fd ps s1) (F2 : FnOk P w K mg base CX k f fd ps s2) :
    FnOk P w K mg base CX k f fd ps (fun vs H Q E => s1 vs H Q E ∨ s2 vs H Q E) := by
  refine ⟨fun vs H Q E h => h.elim (F1.len vs H Q E) (F2.len vs H Q E), ?_⟩
  intro A outer s H args us vs Q E hr e b
  have h1 := F1.run A outer s H args us vs Q E hr e b
  have h2 := F2.run A outer s H args us vs Q E hr e b
  intros
  first
    | (rename_i h; exact h.elim (fun z => h1 (by assumption) z) (fun z => h2 (by assumption) z))
    | (rename_i h; exact h.elim h1 h2)
end L2

set_option Elab.async false
set_option linter.all false
set_option maxRecDepth 100000
set_option maxHeartbeats 2000000
/-! own rules: tuple(xs), xs a list or a tuple, in one reading -/
namespace L2
open PySem PySem.Spec PyProof.Rows L2
def rTupU : List V → Hp → VK → Prop := fun xs H Q => ∃ p ys, xs = [V.ref p] ∧ (H p = some (.lst ys) ∨ H p = some (.tup ys)) ∧ ∀ t H', Same H H' → H' t = some (.tup ys) → Q (.ref t) H'
theorem call_tupU {X : Cx} : CallR X (.type "tuple") rTupU := by
  intro pins s σ H xs us Q I r ⟨p, ys, e, h, q⟩
  rcases h with h | h
  · exact call_tuple_of pins s σ H xs us Q I r ⟨p, ys, e, .inl ⟨SqL.of h, fun l nl => q l _ (fun b o e => by rw [upd_ne (ne_of_none e nl)]; exact e) upd_same⟩⟩
  · exact call_tuple_of pins s σ H xs us Q I r ⟨p, ys, e, .inr ⟨SqT.of h, q p H (Same.refl _) h⟩⟩
def rCatU : R2 := fun x y H Q => ∃ a b xs ys, x = .ref a ∧ y = .ref b ∧ H a = some (.tup xs) ∧ H b = some (.tup ys) ∧ xs.length + ys.length ≤ sizeLine ∧ ∀ t H', Same H H' → H' t = some (.tup (xs ++ ys)) → Q (.ref t) H'
theorem op_catU {X : Cx} : OpR X (binaryOp .Add) rCatU := by
  intro pins s σ H x y v u Q I rx ry h
  obtain ⟨a, b, xs, ys, ex, ey, ha, hb, hz, q⟩ := h
  refine op_catA pins s σ H x y v u Q I rx ry ⟨a, b, xs, ys, ex, ey, SqT.of ha, SqT.of hb, hz, fun e => ?_, fun _ e => ?_, fun _ _ p np => q p _ (fun b o e => by rw [upd_ne (ne_of_none e np)]; exact e) upd_same⟩
  · exact q b H (fun _ _ e => e) (by rw [e]; exact hb)
  · exact q a H (fun _ _ e => e) (by rw [e, List.append_nil]; exact ha)
def rSlU : V → Option Int → Option Int → Hp → VK → Prop := fun x lo hi H Q => ∃ a xs, x = .ref a ∧ H a = some (.tup xs) ∧ ∀ (p : Addr) (H' : Hp), Same H H' → H' p = some (.tup (cutV xs lo hi)) → Q (.ref p) H'
theorem sl_tupU {X : Cx} : SlR X rSlU := by
  intro pins s σ H x v vl vu lo hi sl Q I rx hs pl pu h
  obtain ⟨a, xs, ex, hx, q⟩ := h
  refine sl_tupA pins s σ H x v vl vu lo hi sl Q I rx hs pl pu ⟨a, xs, ex, SqT.of hx, fun y => ?_, fun _ p np => q p _ (fun b o e => by rw [upd_ne (ne_of_none e np)]; exact e) upd_same⟩
  refine q a H (fun _ _ e => e) ?_
  have : cutV xs lo hi = xs := by
    unfold cutV
    rw [y.1, y.2, List.drop_zero, Nat.sub_zero, List.take_length]
  rw [this]
  exact hx
end L2
namespace Tw
open PySem PySem.Spec PyProof.Rows L2 PySem.W
section
variable {X : Cx} {CX : CXT} {k : Nat} {f C D : Addr} {fd : FuncData} {ps : List Str} {sp : Sp} {E : XK}
theorem op_eq_two (c : EqC X.K C f) (hd : PySem.W.notFirst X.K C (.ref D) = true) (F : FnOk X.prog X.w X.K X.mg X.base CX k f fd ps sp) (hr : Room k X.A) (hb : Binds X.K fd ps []) (hx : Passes CX X E) : OpR X (compareOp .Eq) (fun x y H Q =>
  ∃ a dx fs b dy gs, x = .ref a ∧ H a = some (.ins C dx fs) ∧ y = .ref b ∧ H b = some (.ins D dy gs) ∧ sp [.ref a, y] H (fun v H' => ∃ r, v = .bl r ∧ Q (.bl r) H') E) := by
  intro pins s σ H x y v u Q I rx ry ⟨a, dx, fs, b, dy, gs, ex, ha, ey, hb2, q⟩
  subst ex
  subst ey
  obtain rfl : v = Value.ref a := rx
  obtain rfl : u = Value.ref b := ry
  obtain ⟨mA, O, rr, _, _, _⟩ := ins_get I.hok ha
  obtain ⟨od, J, hl⟩ := O.look
  obtain ⟨mB, OB, rrB, _, _, _⟩ := ins_get I.hok hb2
  obtain ⟨odB, JB, hlB⟩ := OB.look
  obtain ⟨m0, hF⟩ := I.fr
  show wpAny _ _ (richCompare .Eq (.ref a) (.ref b)) _ _ _
  refine cmp_K hr.units0 hF I.ok.mod.kin J JB.type hd c.eq c.fn (thn (run_sub F ⟨hr, rfl⟩ hb hx I (.cons (relR a) (.cons (relR b) .nil)) q) fun r s' ⟨z, H', I', rz, b2, ez, q'⟩ => ?_)
  subst ez
  obtain rfl : r = Value.bool b2 := rz
  exact ⟨_, H', I', relB b2, q'⟩
end
end Tw

set_option Elab.async false
set_option linter.all false
set_option maxRecDepth 100000
set_option maxHeartbeats 2000000
/-! own rules: min(xs, key=lambda x: ys[x]), ys a tuple, a name of the def; t[::-1], t a tuple -/
namespace Cl
open PySem PySem.Spec PyProof.Rows L2 LamX
theorem tuple_getitem_lookup : typeLookup (Value.type "tuple") (Str.ofString "__getitem__") = pure (some (Value.builtin "tuple.__getitem__")) := rfl
section
variable {prog : Program} {w : World} {A : Around} {E : Value → Shared → Prop} {s : Shared}
theorem seqT {i : Int} {vs : List Value} {u : Value} (h0 : 0 ≤ i) (h : vs[i.toNat]? = some u) : seqIndex? i vs.toArray.size = some i.toNat := by
  have hl := (List.getElem?_eq_some_iff.mp h).1
  unfold seqIndex?
  have e : vs.toArray.size = vs.length := by simp
  rw [e, if_neg (show ¬ i < 0 by omega)]
  show (if (decide (0 ≤ i) && decide (i < (vs.length : Int))) = true then some i.toNat else none) = _
  rw [decide_eq_true h0, decide_eq_true (show i < (vs.length : Int) by omega)]
  rfl
/-- lambda x: y[x], called with an int -/
theorem lam_ixT {f l c' ck : Addr} {q x y : Str} {params : Arguments} {p1 p2 p3 : Pos} {scope : Scope} {cl : List (Str × Addr)} {pm ctv u : Value} {vs : List Value} {i : Int} {t : Tok} {Q : Value → Shared → Prop}
    (S : LSc scope x y) (hd : A.depth < recursionLimit) (hf : s.heap.get? f = some (PySem.W.kla_obj "<lambda>" q params (.Subscript (.Name y p1) (.Name x p2) p3) scope cl pm c' ctv))
    (hbind : ∀ v : Value, bindArgs (PySem.W.kla_fn "<lambda>" q params (.Subscript (.Name y p1) (.Name x p2) p3) scope cl pm (.ref c') ctv) ⟨[v], []⟩ = pure [(x, v)])
    (hcode : ∃ (oc : Obj) (us : Array Value) (tk : Tok), s.heap.get? c' = some oc ∧ oc.data = .fields us ∧ us[1]? = some (.str q tk)) (hlim : s.heap.NoLimit)
    (hck : cl.lookup y = some ck) (hcell : s.heap.IsCell ck (some (.ref l))) (hl : IsTup s.heap l vs.toArray) (h0 : 0 ≤ i) (h1 : i < 2 ^ 63) (hi : vs[i.toNat]? = some u)
    (hdx : (x == ("__debug__" : Str)) = false) (hdy : (y == ("__debug__" : Str)) = false) (hcy : (y == ("__classdict__" : Str)) = false)
    (h : ∀ h' tk, s.toks ≤ tk → (∀ b o, s.heap.get? b = some o → h'.get? b = some o) → Q u { s with heap := h', toks := tk }) : wpAny (model prog w) A (call (.ref f) [.int i t]) Q E s := by
  obtain ⟨oc, us, tq, hoc, hdc, hvc⟩ := hcode
  refine wpAny_call (PySem.W.kla_callFunE hd hf rfl S.co S.gen rfl ⟨c', oc, us, tq, rfl, hoc, hdc, hvc⟩ ?_)
  rw [hbind]
  refine wpAny_pure (wpAny_newFunctionEnv S.nocell (fun z hz => by rw [List.mem_singleton.mp hz]; exact S.px) (fun h₁ hns hsb => ⟨hlim.fresh _ hsb, ?_⟩) S.kind)
  have kp : ∀ b o, s.heap.get? b = some o → h₁.get? b = some o := fun b o e => hsb.extBut b o (Nat.ne_of_lt (Heap.lt_size e)) (Heap.get?_push_of_some _ e)
  refine PySem.W.kla_codeExpr ?_
  refine wpAny_Subscript_Name tuple_getitem_lookup ?_
  refine wpAny_Name (wpAny_loadName_free S.kind S.fy hck (hcell.keeps kp) ?_ hcy) hdy
  refine wpAny_Name (wpAny_loadName_local S.kind S.px hns (v := .int i t) ?_ ?_) hdx
  · simp [List.lookup]
  · have hl' : IsTup h₁ l vs.toArray := hl.keeps kp
    refine ⟨hl'.typeIs, getItem_tuple hl' (by omega) h1 (j := i.toNat) (seqT h0 hi) (by simpa using hi) ?_⟩
    exact h h₁ _ (by show s.toks ≤ s.toks + _; omega) kp
/-- what a lambda x: y[x] is, and what it reads -/
structure LamAtT (h : Heap) (f : Addr) (x y : Str) (q : Str) (params : Arguments) (p1 p2 p3 : Pos) (scope : Scope) (cl : List (Str × Addr)) (pm ctv : Value) (c' ck l : Addr) (us : List Value) : Prop where
  fn : h.get? f = some (PySem.W.kla_obj "<lambda>" q params (.Subscript (.Name y p1) (.Name x p2) p3) scope cl pm c' ctv)
  code : ∃ (oc : Obj) (us : Array Value) (tk : Tok), h.get? c' = some oc ∧ oc.data = .fields us ∧ us[1]? = some (.str q tk)
  lim : h.NoLimit
  hck : cl.lookup y = some ck
  cell : h.IsCell ck (some (.ref l))
  lst : IsTup h l us.toArray
theorem LamAtT.keeps {h h' : Heap} {f : Addr} {x y : Str} {q : Str} {params : Arguments} {p1 p2 p3 : Pos} {scope : Scope} {cl : List (Str × Addr)} {pm ctv : Value} {c' ck l : Addr} {us : List Value}
    (L : LamAtT h f x y q params p1 p2 p3 scope cl pm ctv c' ck l us) (k : ∀ b o, h.get? b = some o → h'.get? b = some o) : LamAtT h' f x y q params p1 p2 p3 scope cl pm ctv c' ck l us :=
  ⟨k _ _ L.fn, let ⟨oc, us, tk, a, b, c⟩ := L.code; ⟨oc, us, tk, k _ _ a, b, c⟩, L.lim.keeps k, L.hck, L.cell.keeps k, L.lst.keeps k⟩
theorem min_lamT {f a l c' ck : Addr} {q x y : Str} {params : Arguments} {p1 p2 p3 : Pos} {scope : Scope} {cl : List (Str × Addr)} {pm ctv : Value} {cs us : List Value} {ns : Nat → Int} {kf : Nat → Int} {Q : Value → Shared → Prop}
    (hh : A.handled = none) (S : LSc scope x y) (hd : A.depth < recursionLimit) (L : LamAtT s.heap f x y q params p1 p2 p3 scope cl pm ctv c' ck l us)
    (hbind : ∀ v : Value, bindArgs (PySem.W.kla_fn "<lambda>" q params (.Subscript (.Name y p1) (.Name x p2) p3) scope cl pm (.ref c') ctv) ⟨[v], []⟩ = pure [(x, v)])
    (hdx : (x == ("__debug__" : Str)) = false) (hdy : (y == ("__debug__" : Str)) = false) (hcy : (y == ("__classdict__" : Str)) = false)
    (ht : s.heap.IsTuple a cs.toArray) (hc : ∀ i, i < cs.length → ∃ t, cs[i]? = some (.int (ns i) t)) (hne : 0 < cs.length)
    (hk : ∀ i, i < cs.length → 0 ≤ ns i ∧ ns i < 2 ^ 63 ∧ ∃ t, us[(ns i).toNat]? = some (.int (kf i) t))
    (h : ∀ v h' tk, cs[argBest (fun i j => decide (kf i < kf j)) (cs.length - 1)]? = some v → (∀ b o, s.heap.get? b = some o → h'.get? b = some o) → Q v { s with heap := h', toks := tk }) :
    wpAny (model prog w) A (call (.builtin "min") [.ref a] [(Str.ofString "key", .ref f)]) Q E s := by
  have hd1 : A.in1.depth < recursionLimit := hd
  refine call_min_walkK (PySem.W.iter_tupleW (A := A.in1) hh ht fun s₂ e2 W st hfp hfr kp2 => ?_)
  have sz2 : s.heap.objs.size < s₂.heap.objs.size := hfp _ List.mem_cons_self
  have old : ∀ {s' : Shared}, Moved [s₂.heap.objs.size, s.heap.objs.size] (fun a b => b = a) s₂ s' → ∀ b o, s.heap.get? b = some o → s'.heap.get? b = some o := fun {s'} m b o e => by
    have lt := Heap.lt_size e
    refine m.heap b o (fun hm => ?_) (kp2 b o e)
    rcases List.mem_cons.mp hm with z | hm
    · rw [z] at lt
      exact Nat.lt_irrefl _ (Nat.lt_trans lt sz2)
    · rw [List.mem_singleton.mp hm] at lt
      exact Nat.lt_irrefl _ lt
  have szc : cs.toArray.size = cs.length := by simp
  refine ⟨s.heap.objs.size, [s.heap.objs.size, a], [s.heap.objs.size], (fun a b => b = a), cs.toArray.size, _, _, fun s' => Moved [s₂.heap.objs.size, s.heap.objs.size] (fun a b => b = a) s₂ s', fun i k _ => ∃ t, k = .int (kf i) t, fun i j => decide (kf i < kf j), rfl, W, st, hfp, by rw [szc]; exact hne, ⟨?_, ?_, ?_, ?_⟩, Moved.refl fun _ => rfl, ?_⟩
  · exact fun s1 s' J m => J.trans (fun _ _ _ h1 h2 => h2.trans h1) m
  · exact fun i k s1 s' v _ => v
  · intro i v s1 o Q' E' hi hP J stI hS cont
    rw [szc] at hi
    obtain ⟨t, ec⟩ := hc i hi
    have ev : v = .int (ns i) t := by
      have hP' : cs[i]? = some v := by simpa using hP
      rw [ec] at hP'
      exact (Option.some.inj hP').symm
    subst ev
    obtain ⟨h0, h1, tk, eu⟩ := hk i hi
    have L1 := L.keeps (old J)
    refine lam_ixT S hd1 L1.fn hbind L1.code L1.lim L1.hck L1.cell L1.lst h0 h1 eu hdx hdy hcy fun h' tk' hle kp => ?_
    exact cont _ _ (J.then_heap hle fun b o _ e => kp b o e) (W.frame _ s1 h' tk' stI hle fun b _ o e => kp b o e) (kp _ _ hS) ⟨_, rfl⟩ fun j k' z => z
  · intro i j ki kj s1 Q' E' J vi vj q
    exact CmpOf.ints_lt (prog := prog) (w := w) (A := A.in1) (P := fun i v => ∃ t, v = .int (kf i) t) kf (fun i v h => h) i j ki kj s1 Q' E' vi vj q
  · intro v s' hP J
    rw [szc] at hP
    have hP' : cs[argBest (fun i j => decide (kf i < kf j)) (cs.length - 1)]? = some v := by simpa using hP
    have e : s' = { s with heap := s'.heap, toks := s'.toks } := by
      obtain ⟨hp, g, d, tk, os⟩ := s'
      subst e2
      have h1 : g = s.gens := J.gens
      have h2 : d = s.drawn := J.drawn
      have h3 : os = s.os := J.os
      subst h1 h2 h3
      rfl
    rw [e]
    exact h v s'.heap s'.toks hP' (old J)
end
section
variable {X : Cx}
def tMinLamT (K : PySem.W.Frag) (T : List (Addr × Str)) (j : Nat) (te : TE) : TE := fun σ H Q => te σ H fun v H1 => ∃ (a l : Addr) (ns ks : List Int), v = .ref a ∧ SqT K H1 a (ns.map V.int) ∧ σ[j]? = some (some (.ref l)) ∧ SqT K H1 l (ks.map V.int) ∧ 0 < ns.length ∧ (∀ n ∈ ns, 0 ≤ n ∧ n < ks.length) ∧
  Tabs T H1 ∧ ∀ (m : Int) (H2 : Hp), ExtN H1 H2 → Tabs T H2 → LeastAt ks ns m → Q (.int m) H2
/-- min(e, key=lambda x: y[x]), y a name of the def that it shares with the lambda -/
theorem pe_minlamT {T : List (Addr × Str)} {c P : Addr} {p p1 p2 p3 lpos kpos pos : Pos} {e : Expr} {te : TE} {x y : Str} {j : Nat} {params : Arguments} {scope : Scope}
    (hg : Gl X "min") (hm : X.mg "min" = none) (he : PE X e te) (hd : X.A.depth < recursionLimit) (hh : X.A.handled = none) (TB : TabB X.base X.mg c P) (hcode : X.env.code = .ref c) (hmT : (P, X.env.qual ++ "<lambda>") ∈ T)
    (hu : ∀ q ∈ T, q.1 = P → q.2 = X.env.qual ++ "<lambda>") (S : LSc scope x y) (hfy : X.env.scope.names.lookup y = some .cell) (hfr : ∀ z ∈ scope.names, z.2 = .free → z.1 = y) (hN : X.N[j]? = some y) (hdef : defaultsOf params X.env = ([], []))
    (hbind : ∀ (q : Str) (cl : List (Str × Addr)) (pm cv ctv v : Value), bindArgs (PySem.W.kla_fn "<lambda>" q params (.Subscript (.Name y p1) (.Name x p2) p3) scope cl pm cv ctv) ⟨[v], []⟩ = pure [(x, v)])
    (hs : starEach [e] X.env = (false, eval e X.env) :: starEach [] X.env := by rfl)
    (hdx : (x == ("__debug__" : Str)) = false := by decide) (hdy : (y == ("__debug__" : Str)) = false := by decide) (hcy : (y == ("__classdict__" : Str)) = false := by decide) :
    PE X (.Call (.Name "min" p) [e] [⟨some "key", .Lambda params (.Subscript (.Name y p1) (.Name x p2) p3) scope lpos, kpos⟩] pos) (tMinLamT X.K T j te) := by
  refine ⟨fun pins s σ H Q I h => ?_⟩
  have hfree : ∀ z ∈ scope.names, z.2 = .free → ∃ c, X.env.cells.lookup z.1 = some c := fun z hz e => I.ok.has _ (.inl (by rw [hfr z hz e]; exact hfy))
  refine wpAny_Call_Name_kw (ld_blt I hg hm (u := .builtin "min") (by decide +kernel) ?_)
  refine PyProof.Rows.callWith_kw ?_ (by rw [hs]; rfl) (by rw [hs]; rfl) (by rfl) (by rfl)
  rw [hs]
  show wpAny _ _ (spliced ((false, eval e X.env) :: backTo pos (starEach [] X.env))) _ _ s
  refine Calls.spliced_cons (thn (he.run pins s σ H _ I h) fun u s1 ⟨v, H1, I1, r1, a, l, ns, ks, ev, ht, hσ, hl, hne, hin, hT, q⟩ => Calls.spliced_nil ?_)
  subst ev
  obtain rfl : u = Value.ref a := r1
  show wpAny _ _ (evalAll ((do let v ← eval (.Lambda params (.Subscript (.Name y p1) (.Name x p2) p3) scope lpos) X.env; standAt pos; pure v) :: [])) _ _ s1
  refine wpAny_evalAll_cons (wpAny_bind (lam_make2 I1 TB hcode hmT hu hT hdef hfree fun f c' pm ctv H2 s2 I2 eN T2 hf hfn hff hco => wpAny_bind (wpAny_standAt (wpAny_pure (wpAny_evalAll_nil ?_)))))
  show wpAny _ _ (call (.builtin "min") [.ref a] [(Str.ofString "key", .ref f)]) _ _ s2
  obtain ⟨cs, rc, tc, _⟩ := I2.tuple (eN.sqT ht)
  obtain ⟨us, ru, pl, hz2⟩ := I2.tuple (eN.sqT hl)
  obtain ⟨m, _, look⟩ := I2.loc
  obtain ⟨u0, r0, lk⟩ := look j y _ hN hσ (.inr (.inl hfy))
  obtain rfl : u0 = Value.ref l := r0
  have cellAt : ∃ ck, X.env.cells.lookup y = some ck ∧ s2.heap.IsCell ck (some (.ref l)) := by
    rcases lk with ⟨k, _⟩ | ⟨_, ck, e1, e2⟩
    · rw [show X.env.kindOf y = some .cell from hfy] at k
      cases k
    · exact ⟨ck, e1, e2⟩
  obtain ⟨ck, eck, hcell⟩ := cellAt
  obtain ⟨⟨oc, vs, tk, o1, o2, o3⟩, _, _⟩ := I2.hok c' _ hco
  have lc : cs.length = ns.length := by rw [← rc.length, List.length_map]
  have lu : us.length = ks.length := by rw [← ru.length, List.length_map]
  have nsAt : ∀ i, i < ns.length → ∃ t, cs[i]? = some (.int (ns.getD i 0) t) := fun i hi => by
    obtain ⟨z, ez, rz⟩ := rc.get (i := i) (x := V.int (ns.getD i 0)) (by rw [List.getElem?_map, List.getD_eq_getElem?_getD, List.getElem?_eq_getElem hi]; rfl)
    obtain ⟨t, rfl⟩ := rz
    exact ⟨t, ez⟩
  refine min_lamT (ns := fun i => ns.getD i 0) (kf := fun i => ks.getD (ns.getD i 0).toNat 0) hh S hd ⟨hf, ⟨oc, vs, tk, o1, o2, o3⟩, I2.nolimit, NdefX.clo_has hfree (PySem.mem_of_lookup S.fy) eck, hcell, pl⟩ (fun v => hbind _ _ _ _ _ v) hdx hdy hcy tc (fun i hi => nsAt i (by omega)) (by omega)
    (fun i hi => ?_) fun v h' tk2 hv kp => ?_
  · have hi' : i < ns.length := by omega
    have hmem : ns.getD i 0 ∈ ns := by rw [List.getD_eq_getElem?_getD, List.getElem?_eq_getElem hi']; exact List.getElem_mem hi'
    obtain ⟨b0, b1⟩ := hin _ hmem
    have hs63 := line63
    rw [List.length_map] at hz2
    have hk' : (ns.getD i 0).toNat < ks.length := by omega
    obtain ⟨z, ez, rz⟩ := ru.get (i := (ns.getD i 0).toNat) (x := V.int (ks.getD (ns.getD i 0).toNat 0)) (by rw [List.getElem?_map, List.getD_eq_getElem?_getD (l := ks), List.getElem?_eq_getElem hk']; rfl)
    obtain ⟨t, rfl⟩ := rz
    exact ⟨b0, by omega, t, ez⟩
  · obtain ⟨n, en⟩ : ∃ n, ns.length = n + 1 := ⟨ns.length - 1, by omega⟩
    have fl := best_is (fun i => ks.getD (ns.getD i 0).toNat 0) n
    rw [← en] at fl
    rw [lc, show ns.length - 1 = n by omega] at hv
    obtain ⟨t, et⟩ := nsAt _ fl.1
    rw [et] at hv
    cases hv
    exact ⟨.int _, H2, I2.kept kp, ⟨t, rfl⟩, q _ H2 eN T2 ⟨_, fl, rfl⟩⟩
end
end Cl
namespace L2
open PySem PySem.Spec PyProof.Rows L2
section
variable {prog : Program} {w : World} {A : Around} {E : Value → Shared → Prop} {s : Shared}
theorem pick_rev (items : Array Value) : (List.filterMap (fun (k : Nat) => items[((items.size : Int) - 1 + ↑k * -1).toNat]?) (List.range items.size)) = items.toList.reverse := by
  obtain ⟨l⟩ := items
  simp only [List.size_toArray, List.getElem?_toArray]
  have h : ∀ m, m ≤ l.length → List.filterMap (fun (k : Nat) => l[((l.length : Int) - 1 + ↑k * -1).toNat]?) (List.range m) = (l.drop (l.length - m)).reverse := by
    intro m
    induction m with
    | zero => intro _; simp
    | succ m ih =>
      intro hm
      rw [List.range_succ, List.filterMap_append, ih (by omega)]
      have hi : l.length - (m + 1) < l.length := by omega
      have e1 : List.filterMap (fun (k : Nat) => l[((l.length : Int) - 1 + ↑k * -1).toNat]?) [m] = [l[l.length - (m + 1)]] := by
        rw [List.filterMap_cons]
        rw [show (((l.length : Int) - 1 + ((m : Nat) : Int) * -1).toNat) = l.length - (m + 1) by omega, List.getElem?_eq_getElem hi]
        rfl
      have e2 : l.drop (l.length - (m + 1)) = l[l.length - (m + 1)] :: l.drop (l.length - m) := by
        rw [List.drop_eq_getElem_cons hi, show l.length - (m + 1) + 1 = l.length - m by omega]
      rw [e1, e2, List.reverse_cons]
  rw [h _ (Nat.le_refl _), Nat.sub_self, List.drop_zero]
theorem sliceApplied_rev {sl : Addr} {t : Tok} {n : Nat} {Q : Int × Int × Nat → Shared → Prop} (h : s.heap.IsSliceOf sl .none .none (.int (-1) t)) (q : Q ((n : Int) - 1, -1, n) s) :
    wpAny (model prog w) A (Builtin.Slice.sliceApplied (.ref sl) (pure ↑n)) Q E s := by
  obtain ⟨o, h1, h2, h3⟩ := h
  unfold Builtin.Slice.sliceApplied
  refine wpAny_bind ?_
  unfold Builtin.Slice.sliceFields
  refine wpAny_bind (wpAny_field h1 h3 (by rfl) ?_)
  refine wpAny_bind (wpAny_field h1 h3 (by rfl) ?_)
  refine wpAny_bind (wpAny_field h1 h3 (by rfl) ?_)
  refine wpAny_pure ?_
  refine wpAny_bind (slicePart_int ?_)
  show wpAny _ _ (if ((-1 : Int) == 0) = true then _ else _) _ _ _
  rw [if_neg (by decide)]
  refine wpAny_bind (slicePart_none ?_)
  refine wpAny_bind (slicePart_none ?_)
  refine wpAny_bind (wpAny_pure ?_)
  have e : Builtin.Slice.sliceAdjust none none (-1) (n : Int) = ((n : Int) - 1, -1) := rfl
  show wpAny _ _ (match Builtin.Slice.sliceAdjust none none (-1) (n : Int) with | (lo, hi) => pure (lo, -1, Builtin.Slice.slicePlaces lo hi (-1))) _ _ _
  rw [e]
  refine wpAny_pure ?_
  have e2 : Builtin.Slice.slicePlaces ((n : Int) - 1) (-1) (-1) = n := by
    unfold Builtin.Slice.slicePlaces
    rw [if_neg (by decide)]
    by_cases h0 : n = 0
    · subst h0
      rfl
    · rw [if_pos (by omega)]
      show (((n : Int) - 1 - -1 - 1) / 1 + 1).toNat = n
      omega
  rw [e2]
  exact q
theorem getItem_tuple_rev {t sl : Addr} {items : Array Value} {tk : Tok} {Q : Value → Shared → Prop} (ht : IsTup s.heap t items) (hs : s.heap.IsSliceOf sl .none .none (.int (-1) tk)) (hz : items.size ≤ sizeLine)
    (q : Q (.ref s.heap.objs.size) { s with heap := s.heap.push { cls := .type "tuple", data := .seq items.toList.reverse.toArray } }) : wpAny (model prog w) A (getItem (.ref t) (.ref sl)) Q E s := by
  unfold getItem
  refine wpAny_holding ?_
  refine wpAny_bind (wpAny_sequenceKey ht.typeIs (by decide) ?_)
  refine wpAny_bind (wpAny_callSpecial?_slot ht.typeIs slot_tuple_getitem (wpAny_call_entry slot_tuple_getitem ht.typeIs entry_tuple_getitem ?_ (args_tuple_getitem _ _)))
  unfold Builtin.«tuple.__getitem__»
  show wpAny _ _ (do
      let xs ← Builtin.Tuple.tupleItemsOf (.ref t)
      _) _ _ _
  refine wpAny_bind (tupleItemsOf_ ht ?_)
  obtain ⟨o, h1, h2, h3⟩ := id hs
  refine wpAny_bind (wpAny_typeOf (T := "slice") ⟨_, h1, h2⟩ ?_)
  rw [if_pos (by decide)]
  refine wpAny_bind (sliceApplied_rev hs ?_)
  show wpAny _ _ (if (((items.size : Int) - 1) == 0 && ((-1 : Int) == 1) && items.size == items.size) = true then _ else _) _ _ _
  rw [if_neg (by simp)]
  refine wpAny_bind ?_
  unfold Builtin.Tuple.tupleExact
  refine wpAny_newObj_type ?_ ?_
  · rw [pick_rev]
    refine wpAny_pure ⟨_, rfl, ?_⟩
    exact wpAny_pure q
  · show sizeOk (.seq _)
    rw [pick_rev]
    show (items.toList.reverse.toArray).size ≤ sizeLine
    simpa using hz
end
section
variable {X : Cx}
/-- t[::-1], t a tuple -/
def tRevT (K : PySem.W.Frag) (te ts : TE) : TE := fun σ H Q => te σ H fun x H1 => ts σ H1 fun y H2 => y = .int (-1) ∧ ∃ a xs, x = .ref a ∧ SqT K H2 a xs ∧ ∀ (p : Addr) (H' : Hp), Same H2 H' → H' p = some (.tup xs.reverse) → Q (.ref p) H'
theorem pe_revT {e st : Expr} {p3 pos : Pos} {te ts : TE} (he : PE X e te) (hs : PE X st ts) : PE X (.Subscript e (.Slice none none (some st) p3) pos) (tRevT X.K te ts) := by
  refine ⟨fun pins s σ H Q I h => ?_⟩
  refine Subscript_ (thn (he.run pins s σ H _ I h) fun v s1 ⟨x, H1, I1, r1, h1⟩ => ?_)
  refine wpAny_Slice ?_
  rw [evalPart_none]
  refine wpAny_pure (wpAny_pure ?_)
  show wpAny _ _ (eval st X.env) _ _ s1
  refine thn (hs.run pins s1 σ H1 _ I1 h1) fun u s2 ⟨y, H2, I2, r2, ey, a, xs, ex, ht, q⟩ => ?_
  subst ey
  subst ex
  obtain ⟨tk, rfl⟩ := r2
  obtain rfl : v = Value.ref a := r1
  have I3 := I2.kept (t' := s2.toks) (h' := s2.heap.push { cls := .type "slice", data := .fields #[.none, .none, .int (-1) tk] }) fun b o e => Heap.get?_push_of_some _ e
  obtain ⟨its, rv, tt, hz⟩ := I3.tuple ht
  have hl := rv.length
  refine tail_any (T := "tuple") tt.typeIs rfl ?_ rfl
  refine getItem_tuple_rev tt (Heap.IsSliceOf.new _ _ _ _) (by simp only [List.size_toArray]; omega) ?_
  generalize s2.heap.push { cls := .type "slice", data := .fields #[.none, .none, .int (-1) tk] } = h3 at I3 tt
  have hn := I3.hok.fresh (Nat.le_refl h3.objs.size)
  exact ⟨.ref h3.objs.size, _, I3.laid (t' := s2.toks) (fun b o e => Heap.get?_push_of_some _ e) (Nat.le_refl _) (show ObjOk X.prog X.w _ _ _ (.tup xs.reverse) from ⟨by rw [List.length_reverse]; exact hz, its.reverse, rv.reverse, IsTup.new _ _⟩), rfl, q _ _ (fun b o e => by rw [upd_ne (ne_of_none e hn)]; exact e) upd_same⟩
end
end L2
namespace Tw
open PySem PySem.Spec PyProof.Rows L2 PySem.W
section
variable {X : Cx} {CX : CXT} {k : Nat} {f C D : Addr} {fd : FuncData} {ps : List Str} {sp : Sp} {E : XK}
theorem op_notIn_own (hd : Dn X.K C "__contains__" f) (F : FnOk X.prog X.w X.K X.mg X.base CX k f fd ps sp) (hr : Room k X.A) (hb : Binds X.K fd ps []) (hx : Passes CX X E) : OpR X (compareOp .NotIn) (rIn C sp E true) := by
  intro pins s σ H x y v u Q I rx ry ⟨a, dx, fs, ey, ha, q⟩
  subst ey
  obtain rfl : u = Value.ref a := ry
  obtain ⟨mA, O, rr, _, _, _⟩ := ins_get I.hok ha
  obtain ⟨od, J, hl⟩ := O.look
  obtain ⟨m0, hF⟩ := I.fr
  refine PySem.W.notIn_K hF I.ok.mod.kin J hd.at_ hd.fn (thn (run_sub F ⟨hr, rfl⟩ hb hx I (.cons (relR a) (.cons rx .nil)) q) fun r s' ⟨z, H', I', rz, b, ez, q'⟩ => ?_)
  subst ez
  obtain rfl : r = Value.bool b := rz
  exact wpAny_truthy_bool ⟨_, _, I', relB (!b), q'⟩
end
end Tw

set_option Elab.async false
set_option linter.all false
set_option maxRecDepth 100000
set_option maxHeartbeats 4000000
/-! min(xs), xs a list of tuples of ints -/
namespace L2
open PySem PySem.Spec PyProof.Rows PySem.W
theorem tupE_lt (p q : List Int) : dataLt (tupE p) (tupE q) = decide (p < q) := by
  show dataLt (.tuple (p.map .int)) (.tuple (q.map .int)) = _
  rw [dataLt_tuple]
  show rowLt (p.map .int) (q.map .int) = _
  rw [dataLt_ints]
theorem minD_tups : ∀ (r : List (List Int)) (b : List Int), ∃ m, minD (tupE b) (r.map tupE) = tupE m ∧ m ∈ b :: r ∧ ∀ z ∈ b :: r, m ≤ z
  | [], b => ⟨b, rfl, List.mem_cons_self, fun z hz => by rw [List.mem_singleton.mp hz]; exact List.le_refl _⟩
  | c :: r, b => by
    have e : minD (tupE b) ((c :: r).map tupE) = minD (if decide (c < b) = true then tupE c else tupE b) (r.map tupE) := by
      show List.foldl _ _ _ = List.foldl _ _ _
      rw [List.map_cons, List.foldl_cons, tupE_lt]
    rw [e]
    by_cases h : c < b
    · rw [if_pos (decide_eq_true h)]
      obtain ⟨m, e1, e2, e3⟩ := minD_tups r c
      refine ⟨m, e1, List.mem_cons_of_mem _ e2, fun z hz => ?_⟩
      rcases List.mem_cons.mp hz with rfl | hz
      · exact List.le_trans (e3 c List.mem_cons_self) (List.le_of_lt h)
      · exact e3 z hz
    · rw [if_neg (fun z => h (of_decide_eq_true z))]
      obtain ⟨m, e1, e2, e3⟩ := minD_tups r b
      refine ⟨m, e1, ?_, fun z hz => ?_⟩
      · rcases List.mem_cons.mp e2 with rfl | e2
        · exact List.mem_cons_self
        · exact List.mem_cons_of_mem _ (List.mem_cons_of_mem _ e2)
      · rcases List.mem_cons.mp hz with rfl | hz
        · exact e3 _ List.mem_cons_self
        · rcases List.mem_cons.mp hz with rfl | hz
          · exact List.le_trans (e3 b List.mem_cons_self) (List.not_lt.mp h)
          · exact e3 z (List.mem_cons_of_mem _ hz)
theorem tupE_depth (b : List Int) : (tupE b).depth ≤ 1 := by
  simp [PyData.depth, depth_ints]
theorem tupE_depths : ∀ bs : List (List Int), PyData.depthAll (bs.map tupE) ≤ 1
  | [] => by simp [PyData.depthAll]
  | b :: bs => by
    have h1 := tupE_depth b
    have h2 := tupE_depths bs
    rw [List.map_cons, PyData.depthAll]
    omega
section
variable {X : Cx} {pins : List (Addr × Obj)} {σ : St} {H : Hp} {s : Shared}
theorem readsAll_tups (I : Inv X pins σ H s) : ∀ {us : List Value} {bs : List (List Int)}, EachIs (TupV X.K H) us bs → ∃ as, ReadsAll s.heap us (bs.map tupE) as
  | _, _, .nil => ⟨_, .nil⟩
  | _, _, .cons h p => by
    obtain ⟨as, r⟩ := tupV_reads I h
    obtain ⟨bs, rs⟩ := readsAll_tups I p
    exact ⟨_, .cons r rs⟩
theorem ints_lay : ∀ ns : List Int, PyData.canLayAll0 (ns.map .int) = true
  | [] => rfl
  | a :: ns => by
    rw [List.map_cons]
    simp [PyData.canLayAll0, PyData.canLay0, ints_lay ns]
theorem pdi_inj : ∀ ms ns : List Int, ms.map PyData.int = ns.map PyData.int → ms = ns
  | [], [], _ => rfl
  | [], b :: ns, h => by simp at h
  | a :: ms, [], h => by simp at h
  | a :: ms, b :: ns, h => by
    rw [List.map_cons, List.map_cons] at h
    injection h with h1 h2
    injection h1 with h1
    rw [h1, pdi_inj ms ns h2]
theorem reads_tup_one {h : Heap} {t : Addr} {ms ns : List Int} {as bs : List Addr} (h1 : Reads h (.ref t) (tupE ms) as) (h2 : Reads h (.ref t) (tupE ns) bs) : ms = ns := by
  have e := SeqAt.ReadsAll.unique [tupE ms] [tupE ns] [.ref t] _ _ (by simp [PyData.canLayAll0, PyData.canLay0, ints_lay]) (.cons h1 .nil) (.cons h2 .nil)
  have e2 := (List.cons.inj e).1
  unfold tupE at e2
  injection e2 with e2
  exact pdi_inj ms ns e2
/-- min(xs) -/
def rMinTA (K : PySem.W.Frag) : List V → Hp → VK → Prop := fun vs H Q => ∃ (a : Addr) (xs : List V) (bs : List (List Int)), vs = [V.ref a] ∧ SqL K H a xs ∧ Paired (TupI K H) xs bs ∧ bs ≠ [] ∧
  ∀ (t : Addr) (m : List Int), SqT K H t (m.map V.int) → m ∈ bs → (∀ z ∈ bs, m ≤ z) → Q (.ref t) H
theorem each_at {R : Value → List Int → Prop} : ∀ {us : List Value} {bs : List (List Int)}, EachIs R us bs → ∀ {i : Nat} {v : Value}, us[i]? = some v → ∃ b, R v b
  | _, _, .nil, i, v, h => by simp at h
  | _, _, .cons h p, 0, v, e => by
    cases e
    exact ⟨_, h⟩
  | _, _, .cons h p, i + 1, v, e => each_at p e
theorem cr_minTA (hh : X.A.handled = none) (hu : X.A.units + 65 < cLine) : CallR X (.builtin "min") (rMinTA X.K) := by
  intro pins s σ H vs us Q I r h
  obtain ⟨a, xs, bs, rfl, hs, hp, hne, q⟩ := h
  obtain ⟨its, rv, hl, hz⟩ := I.list hs
  rw [Vals.ref1 r]
  have e0 : EachIs (TupV X.K H) its bs := tupV_of hp rv
  match bs, hne, e0, q with
  | b :: r, _, e0, q =>
    obtain ⟨as, ra⟩ := readsAll_tups I e0
    obtain ⟨m, em, hm, hle⟩ := minD_tups r b
    refine min_list_data (x := tupE b) (xs := r.map tupE) hh hl.isList (by simpa using ra) ⟨?_, ?_⟩ ?_ fun i v h' tk cs hv hr kp => ?_
    · intro x hx y hy
      rw [← List.map_cons] at hx hy
      obtain ⟨b1, _, rfl⟩ := List.mem_map.mp hx
      obtain ⟨b2, _, rfl⟩ := List.mem_map.mp hy
      simp [alike, alike_ints]
    · intro x hx
      rw [← List.map_cons] at hx
      obtain ⟨b1, _, rfl⟩ := List.mem_map.mp hx
      intro z
      cases z
    · have := tupE_depths (b :: r)
      rw [List.map_cons] at this
      omega
    · have hv' : its[i]? = some v := by simpa using hv
      obtain ⟨ns, t, rfl, ht⟩ := each_at e0 hv'
      rw [em] at hr
      have e1 : ns = m := by
        obtain ⟨bs1, r1⟩ := tupV_reads I ⟨t, rfl, ht⟩
        exact reads_tup_one (reads_keeps kp r1) hr
      subst e1
      exact ⟨.ref t, H, I.kept kp, rfl, q t ns ht hm hle⟩
end
end L2

set_option Elab.async false
set_option linter.all false
set_option maxRecDepth 100000
set_option maxHeartbeats 4000000
/-! t * n, t a tuple, n from 0 on -/
namespace PySem
open PySem PySem.W PySem.AutoSeq1
theorem tuple_mul1 (l : Addr) (items : Array Value) (n : Nat) (dd : Option Addr) (sl : Array (Option Value)) (u : Tok) :
    Meets (Builtin.«tuple.__mul__» ⟨[.ref l, .int 1 u], []⟩) (fun _ R s => s.heap.get? l = some { cls := .type "tuple", dict := dd, data := .seq items n, slots := sl } ∧ R (.ok (.ret (.ref l))) s) :=
  .of_wp fun prog w A R s h => by
    obtain ⟨hp, g, d, tk, os⟩ := s
    obtain ⟨hl, h⟩ := h
    have f1 := idx_int
    have f2 := sub_tuple_tuple
    have h1 : (decide ((1 : Int) < -2 ^ 63) || decide ((1 : Int) ≥ 2 ^ 63)) = false := by decide
    have h2 : (items.isEmpty || (1 : Int) == 1) = true := by simp
    wp_walk using wpAny_loadPart' hl
    exact ⟨_, rfl, h⟩
theorem tuple_mul0 (l : Addr) (items : Array Value) (n : Nat) (dd : Option Addr) (sl : Array (Option Value)) (u : Tok) (hne : items.isEmpty = false) :
    Meets (Builtin.«tuple.__mul__» ⟨[.ref l, .int 0 u], []⟩) (fun _ R s => s.heap.get? l = some { cls := .type "tuple", dict := dd, data := .seq items n, slots := sl } ∧ R (.ok (.ret (.ref s.heap.objs.size))) { s with heap := s.heap.push { cls := .type "tuple", data := .seq #[] 0 } }) :=
  .of_wp fun prog w A R s h => by
    obtain ⟨hp, g, d, tk, os⟩ := s
    obtain ⟨hl, h⟩ := h
    have f1 := idx_int
    have f2 := sub_tuple_tuple
    have h1 : (decide ((0 : Int) < -2 ^ 63) || decide ((0 : Int) ≥ 2 ^ 63)) = false := by decide
    have h2 : (items.isEmpty || (0 : Int) == 1) = false := by simp [hne]
    have h3 : (decide ((0 : Int) ≤ 0) || items.isEmpty) = true := by simp
    wp_walk using wpAny_loadPart' hl
    exact ⟨_, rfl, h⟩
end PySem
namespace L2
open PySem PySem.Spec PyProof.Rows PySem.W
def rRepU : R2 := fun x y H Q => ∃ (l : Addr) (k : Nat) (xs : List V), x = .ref l ∧ y = .int k ∧ H l = some (.tup xs) ∧ xs ≠ [] ∧ k ≤ 1000 ∧ xs.length ≤ 1000 ∧ ∀ t H', Same H H' → H' t = some (.tup (List.replicate k xs).flatten) → Q (.ref t) H'
theorem op_repU {X : Cx} : OpR X (binaryOp .Mult) rRepU := by
  intro pins s σ H x y v u Q I rx ry h
  obtain ⟨l, k, xs, rfl, rfl, hx, hne, hk, hl, q⟩ := h
  by_cases h2 : 2 ≤ k
  · exact op_repT pins s σ H _ _ v u Q I rx ry ⟨l, k, xs, rfl, rfl, SqT.of hx, hne, by omega, by omega, hl, fun p np => q p _ (fun b o e => by rw [upd_ne (ne_of_none e np)]; exact e) (by rw [upd_same, Int.toNat_natCast])⟩
  · cases rx
    obtain ⟨t, rfl⟩ := ry
    obtain ⟨its, rv, tc, hz⟩ := I.tuple (SqT.of hx : SqT X.K H l xs)
    obtain ⟨ob, eb, hc, n2, hd⟩ := id tc
    obtain ⟨cls, dc, data, sl⟩ := ob
    dsimp only at hc hd
    subst hc hd
    have hie : its.toArray.isEmpty = false := by
      have := rv.length
      cases its with
      | nil => exact absurd (List.length_eq_zero_iff.mp this) hne
      | cons a r => rfl
    refine wpAny_binaryOp_repeat_ref (T := "tuple") (U := "int") (by decide +kernel) ⟨_, eb, rfl⟩ (fun _ => rfl) noFill_tuple_mul F.fills_int_mul F.slot_int_rmul repeat_tuple AutoSeq1.idx_int ?_
    refine call_meets F.slot_int_rmul rfl F.entry_int_rmul (F.args_int_rmul_2 _ _) (int_rmul_tuple _ _ _ _ _ _ _) ⟨eb, ?_⟩
    refine ⟨rfl, ⟨_, eb, rfl⟩, ?_⟩
    obtain hk0 | hk1 : k = 0 ∨ k = 1 := by omega
    · subst hk0
      refine call_meets F.slot_tuple_mul ⟨_, eb, rfl⟩ F.entry_tuple_mul (F.args_tuple_mul_2 _ _) (tuple_mul0 _ _ _ _ _ _ hie) ⟨eb, ?_⟩
      have hn := I.hok.fresh (Nat.le_refl s.heap.objs.size)
      exact ⟨.ref s.heap.objs.size, _, I.laid (t' := s.toks) (fun b o e => Heap.get?_push_of_some _ e) (Nat.le_refl _) (show ObjOk X.prog X.w _ _ _ (.tup []) from ⟨Nat.zero_le _, [], .nil, IsTup.new _ _⟩), rfl, q _ _ (fun b o e => by rw [upd_ne (ne_of_none e hn)]; exact e) upd_same⟩
    · subst hk1
      refine call_meets F.slot_tuple_mul ⟨_, eb, rfl⟩ F.entry_tuple_mul (F.args_tuple_mul_2 _ _) (tuple_mul1 _ _ _ _ _ _) ⟨eb, ?_⟩
      refine ⟨.ref l, H, I, rfl, q l H (Same.refl _) ?_⟩
      rw [hx, List.replicate_one, List.flatten_singleton]
end L2

set_option Elab.async false
set_option linter.all false
set_option maxRecDepth 100000
set_option maxHeartbeats 4000000
/-! len of a set; min of a tuple of ints -/
namespace L2
open PySem PySem.Spec PyProof.Rows PySem.W
section
variable {X : Cx}
def rLenSet (w : World) : List V → Hp → VK → Prop := fun xs H Q => ∃ (a : Addr) (S : Int → Bool) (n : Nat), xs = [V.ref a] ∧ H a = some (SetO w a S n) ∧ ∀ ks : List Int, ks.Nodup → (∀ k, S k = true ↔ k ∈ ks) → ks.length = n → Q (.int (n : Nat)) H
theorem cr_lenSet : CallR X (.builtin "len") (rLenSet X.w) := by
  intro pins s σ H xs us Q I r h
  obtain ⟨a, S, n, rfl, e, q⟩ := h
  rw [Vals.ref1 r]
  have ok := I.hok a _ e
  unfold SetO ObjOk at ok
  obtain ⟨⟨o, es, ep, t, h1, h2, h3, h4, h5, h6, h7, h8, h9, _, _⟩, _, _⟩ := ok
  have hb : (es.size : Int) < 2 ^ 63 := by
    have : scanBound ≤ 1048576 := by unfold scanBound; decide
    omega
  refine call_len_set h1 h2 h3 h8 hb ?_
  subst h9
  exact ⟨.int (es.size : Nat), H, I.kept (fun _ _ e => e), ⟨_, rfl⟩, q _ h5 h6 (by rw [List.length_map, Array.length_toList])⟩
theorem reads_int1 {h : Heap} {k m : Int} {t : Tok} {as : List Addr} (r : Reads h (.int k t) (.int m) as) : k = m := by
  cases r
  rfl
theorem readsAll_ints {h : Heap} : ∀ {ns : List Int} {us : List Value}, Vals (ns.map V.int) us → ∃ as, ReadsAll h us (ns.map PyData.int) as
  | [], _, .nil => ⟨_, .nil⟩
  | n :: ns, _, .cons r v => by
    obtain ⟨t, rfl⟩ := r
    obtain ⟨as, ra⟩ := readsAll_ints v
    exact ⟨_, .cons (.int n t) ra⟩
theorem depth_ints0 : ∀ ns : List Int, PyData.depthAll (ns.map PyData.int) ≤ 1
  | [] => by simp [PyData.depthAll]
  | a :: l => by
    have := depth_ints0 l
    rw [List.map_cons, PyData.depthAll]
    simp only [PyData.depth]
    omega
theorem fmin_le : ∀ (l : List Int) (a : Int), l.foldl min a ≤ a ∧ ∀ z ∈ l, l.foldl min a ≤ z
  | [], a => ⟨Int.le_refl _, fun z hz => nomatch hz⟩
  | b :: l, a => by
    obtain ⟨h1, h2⟩ := fmin_le l (min a b)
    rw [List.foldl_cons]
    refine ⟨by omega, fun z hz => ?_⟩
    rcases List.mem_cons.mp hz with rfl | hz
    · omega
    · exact h2 z hz
def rMinTu (K : PySem.W.Frag) : List V → Hp → VK → Prop := fun vs H Q => ∃ (a : Addr) (ns : List Int), vs = [V.ref a] ∧ SqT K H a (ns.map V.int) ∧ ns ≠ [] ∧ ∀ m : Int, m ∈ ns → (∀ z ∈ ns, m ≤ z) → Q (.int m) H
theorem cr_minTu (hh : X.A.handled = none) (hu : X.A.units + 65 < cLine) : CallR X (.builtin "min") (rMinTu X.K) := by
  intro pins s σ H vs us Q I r h
  obtain ⟨a, ns, rfl, hs, hne, q⟩ := h
  obtain ⟨its, rv, tc, hz⟩ := I.tuple hs
  rw [Vals.ref1 r]
  obtain ⟨n, l, rfl⟩ : ∃ n l, ns = n :: l := by
    cases ns with
    | nil => exact absurd rfl hne
    | cons n l => exact ⟨n, l, rfl⟩
  obtain ⟨as, ra⟩ := readsAll_ints (h := s.heap) rv
  refine min_tuple_data (x := .int n) (xs := l.map PyData.int) hh tc (by simpa using ra) ⟨?_, ?_⟩ ?_ fun i v h' tk cs hv hr kp => ?_
  · intro x hx y hy
    rw [← List.map_cons] at hx hy
    obtain ⟨b1, _, rfl⟩ := List.mem_map.mp hx
    obtain ⟨b2, _, rfl⟩ := List.mem_map.mp hy
    simp [alike]
  · intro x hx
    rw [← List.map_cons] at hx
    obtain ⟨b1, _, rfl⟩ := List.mem_map.mp hx
    intro z
    cases z
  · have := depth_ints0 (n :: l)
    rw [List.map_cons] at this
    omega
  · have hv' : its[i]? = some v := by simpa using hv
    have hl := rv.length
    have hi : i < (n :: l).length := by
      rw [List.length_map] at hl
      rw [hl]
      exact (List.getElem?_eq_some_iff.mp hv').1
    obtain ⟨z, ez, rz⟩ := rv.get (i := i) (x := V.int (n :: l)[i]) (by rw [List.getElem?_map, List.getElem?_eq_getElem hi]; rfl)
    rw [hv'] at ez
    cases ez
    obtain ⟨t, rfl⟩ := rz
    rw [minD_ints] at hr
    obtain ⟨h1, h2⟩ := fmin_le l n
    have e : (n :: l)[i] = l.foldl min n := reads_int1 hr
    exact ⟨.int _, H, I.kept kp, ⟨t, rfl⟩, q _ (List.getElem_mem hi) fun z hz => by
      rw [e]
      rcases List.mem_cons.mp hz with rfl | hz
      · exact h1
      · exact h2 z hz⟩
end
end L2

set_option Elab.async false
set_option linter.all false
set_option maxRecDepth 100000
set_option maxHeartbeats 2000000
/-! own rules: slices of tuples that are known to have no dict; t.index(text) -/
namespace L2
open PySem PySem.Spec PyProof.Rows L2
section
variable {X : Cx}
def rSlF (K : PySem.W.Frag) : V → Option Int → Option Int → Hp → VK → Prop := fun x lo hi H Q => ∃ a xs, x = .ref a ∧ SqT K H a xs ∧
  ¬ (HT.sIx xs.length 0 lo = 0 ∧ HT.sIx xs.length xs.length hi = xs.length) ∧ ∀ p o, H p = none → o.dict = none → Q (.ref p) (upd H p (.frz o (.tup (cutV xs lo hi))))
theorem sl_tupF : SlR X (rSlF X.K) := by
  intro pins s σ H x v vl vu lo hi sl Q I rx hs pl pu h
  obtain ⟨a, xs, rfl, hx, hw, q⟩ := h
  cases rx
  obtain ⟨its, r, ht, hz⟩ := I.tuple hx
  have hlen : its.toArray.size = xs.length := by rw [List.size_toArray]; exact r.length.symm
  refine ⟨"tuple", _, PyProof.Rows.slot_tuple_getitem.lookup, ht.typeIs, ?_⟩
  refine HT.getItem_tuple_cut ht hs pl pu (by rw [hlen]; exact hw) ?_ (by rw [hlen]; exact hz)
  rw [hlen]
  have hv := (r.drop (HT.sIx xs.length 0 lo)).take (HT.sIx xs.length xs.length hi - HT.sIx xs.length 0 lo)
  refine ⟨.ref s.heap.objs.size, _, I.laid (t' := s.toks) (o := .frz { cls := .type "tuple", data := .seq (((its.drop (HT.sIx xs.length 0 lo)).take (HT.sIx xs.length xs.length hi - HT.sIx xs.length 0 lo)).toArray) } (.tup (cutV xs lo hi))) (fun b ob q => Heap.get?_push_of_some _ q) (Nat.le_refl _) ?_, rfl, q _ _ (I.hok.fresh (Nat.le_refl _)) rfl⟩
  exact ⟨Heap.get?_push_size _ rfl, Nat.le_trans (cutV_length xs lo hi) hz, _, hv, IsTup.new _ _⟩
/-- t.index(x), texts, x there -/
def rIndexS (K : PySem.W.Frag) : V → List V → Hp → VK → Prop := fun x vs H Q => ∃ (a : Addr) (ns : List Str) (k : Str) (j : Nat), x = .ref a ∧ vs = [.str k] ∧ SqT K H a (ns.map V.str) ∧ (∀ z ∈ ns, (PyData.str z).canLay0 = true) ∧ ns[j]? = some k ∧ (∀ m, m < j → ns[m]? ≠ some k) ∧ Q (.int (j : Nat)) H
theorem dpAll_strs (K : PySem.W.Frag) (H : Hp) : ∀ ns : List Str, DpAll K H (ns.map V.str) (ns.map PyData.str)
  | [] => .nil
  | n :: ns => .cons (.str n) (dpAll_strs K H ns)
theorem lay_strs : ∀ ns : List Str, (∀ z ∈ ns, (PyData.str z).canLay0 = true) → PyData.canLayAll0 (ns.map PyData.str) = true
  | [], _ => rfl
  | n :: ns, h => by
    rw [List.map_cons, PyData.canLayAll0, lay_strs ns (fun z hz => h z (List.mem_cons_of_mem _ hz)), h n List.mem_cons_self]
    rfl
theorem str_beq (a b : Str) : PyData.eqv (.str a) (.str b) = (a == b) := rfl
theorem mt_indexTS (hu : X.A.units + 65 < cLine) : MtR X "tuple.index" (rIndexS X.K) := by
  intro pins s σ H x xs v us Q I rx rxs h
  obtain ⟨a, ns, k, j, rfl, rfl, hl, hlay, hj, hno, q⟩ := h
  cases rx
  cases rxs with
  | cons ry rt =>
    rename_i uy ut
    cases rt
    obtain ⟨its, rv, pl, hlen⟩ := I.tuple hl
    obtain ⟨as, h4⟩ := Dp.readsAll I (ns.map PyData.str) _ its (dpAll_strs _ _ ns) rv
    obtain ⟨bs, r1⟩ := Dp.reads I (.str k) _ uy (.str k) ry
    have hjl := (List.getElem?_eq_some_iff.mp hj).1
    have hvl := rv.length
    rw [List.length_map] at hvl hlen
    obtain ⟨⟨cls, dd, data, sl⟩, ho, hc, n, hd'⟩ := id pl
    simp only at hc hd'
    subst hc hd'
    have hxs : PyData.canLayAll0 (ns.map PyData.str) = true := lay_strs ns hlay
    have hmap : its.map (SeqAt.readOf s.heap) = ns.map PyData.str := SeqAt.readsAll_map _ its as hxs h4
    have at_ : ∀ (m : Nat) (hm : m < its.toArray.size) (z : Str), ns[m]? = some z → SeqAt.readOf s.heap its.toArray[m] = .str z := by
      intro m hm z hz
      have hml : m < its.length := by simpa using hm
      have e1 : (its.map (SeqAt.readOf s.heap))[m]? = some (.str z) := by rw [hmap, List.getElem?_map, hz]; rfl
      rw [List.getElem?_map, List.getElem?_eq_getElem hml] at e1
      have e2 : SeqAt.readOf s.heap its[m] = .str z := Option.some.inj e1
      simpa using e2
    have hj2 : j < its.toArray.size := by simp only [List.size_toArray]; omega
    refine call_meets F.slot_tuple_index ⟨_, ho, rfl⟩ F.entry_tuple_index (F.args_tuple_index_2 _ _)
      (TI.tuple_indexAt a its.toArray n dd sl uy (fun u => PyData.eqv (SeqAt.readOf s.heap u) (.str k)) j hj2 ?_ ?_) ⟨ho, SeqAt.items_eqAt (vs := its.toArray) (show ReadsAll s.heap its.toArray.toList (ns.map PyData.str) as from h4) r1 hxs (hlay k (List.mem_of_getElem? hj)) (Nat.lt_of_le_of_lt (Nat.add_le_add_left (Nat.min_le_right _ _) _) (by simp only [PyData.depth]; omega)), ?_⟩
    · show PyData.eqv (SeqAt.readOf s.heap its.toArray[j]) (.str k) = true
      rw [at_ j hj2 k hj]
      show (k == k) = true
      exact beq_self_eq_true k
    · intro m hm hmj
      have hmn : m < ns.length := by simp only [List.size_toArray] at hm; omega
      have hz : ns[m]? = some ns[m] := List.getElem?_eq_getElem hmn
      show PyData.eqv (SeqAt.readOf s.heap its.toArray[m]) (.str k) = false
      rw [at_ m hm _ hz]
      show (ns[m] == k) = false
      exact beq_eq_false_iff_ne.mpr fun z => hno m hmj (by rw [hz, z])
    · exact ⟨.int (j : Nat), H, I.tok _, ⟨_, rfl⟩, q⟩
end
theorem sameUp {H : Hp} {p : Addr} {o : HO} (np : H p = none) : Same H (upd H p o) := fun b u e => by
  rw [upd_ne (fun z => by rw [z, np] at e; cases e)]
  exact e
def rListK (K : PySem.W.Frag) : List V → Hp → VK → Prop := fun xs H Q => ∃ p ys, xs = [.ref p] ∧ (SqL K H p ys ∨ SqT K H p ys) ∧ ∀ l, H l = none → Q (.ref l) (upd H l (.lst ys))
theorem call_listK {X : Cx} : CallR X (.type "list") (rListK X.K) := call_list_of
def rTupK (K : PySem.W.Frag) : List V → Hp → VK → Prop := fun xs H Q => ∃ p ys, xs = [.ref p] ∧ ((SqL K H p ys ∧ ∀ l, H l = none → Q (.ref l) (upd H l (.tup ys))) ∨ (SqT K H p ys ∧ Q (.ref p) H))
theorem call_tupleK {X : Cx} : CallR X (.type "tuple") (rTupK X.K) := call_tuple_of
def tTruL (K : PySem.W.Frag) (ta : TE) : L2.TT := fun σ H Q => ta σ H fun x H' => ∃ k, TruV K x H' k ∧ Q k H'
theorem pt_truL {X : Cx} {K : PySem.W.Frag} {a : Expr} {ta : TE} (hK : X.K = K) (ha : PE X a ta) (he : ∀ whole, isTrue a X.env whole = (do let v ← whole; standAt a.pos; holding [v] (truthy v))) : PT X a (tTruL K ta) := by
  subst hK
  exact pt_truth ha he
/-! slices and sums of tuples, whichever object comes of them -/
theorem SqT.whole {xs : List V} {lo hi : Option Int} (h : HT.sIx xs.length 0 lo = 0 ∧ HT.sIx xs.length xs.length hi = xs.length) : cutV xs lo hi = xs := by
  unfold cutV
  rw [h.1, h.2, List.drop_zero, Nat.sub_zero, List.take_length]
theorem slA {K : PySem.W.Frag} {H : Hp} {a : Addr} {xs : List V} {lo hi : Option Int} {Q : VK} (ha : SqT K H a xs) (q : ∀ (H' : Hp) (p : Addr), Same H H' → SqT K H' p (cutV xs lo hi) → Q (.ref p) H') : rSlA K (.ref a) lo hi H Q :=
  ⟨a, xs, rfl, ha, fun h => q H a (Same.refl _) (by rw [SqT.whole h]; exact ha), fun _ p np => q _ p (sameUp np) (SqT.of upd_same)⟩
/-- the same, the new tuple standing by itself where the old one does -/
theorem slA' {K : PySem.W.Frag} {H : Hp} {a : Addr} {xs : List V} {lo hi : Option Int} {Q : VK} (ha : H a = some (.tup xs)) (q : ∀ (H' : Hp) (p : Addr), Same H H' → H' p = some (.tup (cutV xs lo hi)) → Q (.ref p) H') : rSlA K (.ref a) lo hi H Q :=
  ⟨a, xs, rfl, SqT.of ha, fun h => q H a (Same.refl _) (by rw [SqT.whole h]; exact ha), fun _ p np => q _ p (sameUp np) upd_same⟩
theorem catA {K : PySem.W.Frag} {H : Hp} {a b : Addr} {xs ys : List V} {Q : VK} (ha : SqT K H a xs) (hb : SqT K H b ys) (hl : xs.length + ys.length ≤ sizeLine) (q : ∀ (H' : Hp) (p : Addr), Same H H' → SqT K H' p (xs ++ ys) → Q (.ref p) H') : rCatA K (.ref a) (.ref b) H Q :=
  ⟨a, b, xs, ys, rfl, rfl, ha, hb, hl, fun h => q H b (Same.refl _) (by rw [h]; exact hb), fun _ h => q H a (Same.refl _) (by rw [h, List.append_nil]; exact ha), fun _ _ p np => q _ p (sameUp np) (SqT.of upd_same)⟩
theorem catA' {K : PySem.W.Frag} {H : Hp} {a b : Addr} {xs ys : List V} {Q : VK} (ha : H a = some (.tup xs)) (hb : H b = some (.tup ys)) (hl : xs.length + ys.length ≤ sizeLine) (q : ∀ (H' : Hp) (p : Addr), Same H H' → H' p = some (.tup (xs ++ ys)) → Q (.ref p) H') : rCatA K (.ref a) (.ref b) H Q :=
  ⟨a, b, xs, ys, rfl, rfl, SqT.of ha, SqT.of hb, hl, fun h => q H b (Same.refl _) (by rw [h]; exact hb), fun _ h => q H a (Same.refl _) (by rw [h, List.append_nil]; exact ha), fun _ _ p np => q _ p (sameUp np) upd_same⟩
theorem sIx_m1 {n : Nat} (d : Nat) (h : 1 ≤ n) : HT.sIx n d (some (-1)) = n - 1 := by
  unfold HT.sIx
  simp
  omega
theorem cutv_to (xs : List V) (k : Nat) : cutV xs none (some (k : Int)) = xs.take k := by
  unfold cutV
  rw [HT.sIx_none, HT.sIx_nat, List.drop_zero, Nat.sub_zero]
  by_cases h : k ≤ xs.length
  · rw [Nat.min_eq_left h]
  · rw [Nat.min_eq_right (by omega), List.take_length, List.take_of_length_le (by omega)]
theorem cutv_from (xs : List V) (k : Nat) : cutV xs (some (k : Int)) none = xs.drop k := by
  unfold cutV
  rw [HT.sIx_none, HT.sIx_nat]
  by_cases h : k ≤ xs.length
  · rw [Nat.min_eq_left h, List.take_of_length_le (by rw [List.length_drop]; omega)]
  · rw [Nat.min_eq_right (by omega), Nat.sub_self, List.take_zero, List.drop_eq_nil_of_le (by omega)]
theorem cutv_init {xs : List V} (h : 1 ≤ xs.length) : cutV xs none (some (-1)) = xs.dropLast := by
  unfold cutV
  rw [HT.sIx_none, sIx_m1 _ h, List.drop_zero, Nat.sub_zero, List.dropLast_eq_take]
theorem not_whole_init {n : Nat} (h : 1 ≤ n) : ¬ (HT.sIx n 0 none = 0 ∧ HT.sIx n n (some (-1)) = n) := by
  rw [sIx_m1 _ h]
  omega
theorem atV_last {α : Type} (f : α → V) (d : α) {xs : List α} (h : 1 ≤ xs.length) : atI (xs.map f) (-1) = some (f (xs.getLastD d)) := by
  unfold atI ixN
  rw [if_neg (by omega), if_pos (by rw [List.length_map]; omega), List.length_map, show ((-1 : Int) + (xs.length : Nat)).toNat = xs.length - 1 by omega]
  show (xs.map f)[xs.length - 1]? = _
  rw [List.getElem?_map, List.getElem?_eq_getElem (by omega), List.getLastD_eq_getLast?, List.getLast?_eq_getElem?, List.getElem?_eq_getElem (by omega)]
  rfl
theorem atV_nat {α : Type} (f : α → V) (d : α) {xs : List α} {i : Nat} (h : i < xs.length) : atI (xs.map f) (i : Int) = some (f (xs.getD i d)) := by
  refine atI_nat ?_
  rw [List.getElem?_map, List.getElem?_eq_getElem h, List.getD_eq_getElem?_getD, List.getElem?_eq_getElem h]
  rfl
end L2

set_option Elab.async false
set_option linter.all false
set_option maxRecDepth 100000
set_option maxHeartbeats 400000
/-! zip(xs, t): each a list or a tuple, told by a Bool (true: a tuple) -/
namespace Zm
open PySem PySem.Spec PyProof.Rows L2
open PySem.Sem (wp)
def SqM (K : PySem.W.Frag) (t : Bool) (H : Hp) (a : Addr) (xs : List V) : Prop := match t with
  | true => SqT K H a xs
  | false => SqL K H a xs
def hSq (t : Bool) (h : Heap) (a : Addr) (xs : Array Value) : Prop := match t with
  | true => h.IsTuple a xs
  | false => h.IsList a xs
def hIt (t : Bool) (h : Heap) (it a : Addr) (i : Nat) : Prop := match t with
  | true => h.IsTupleIter it a i
  | false => h.IsListIter it a i
def nIt (t : Bool) : String := if t then "tuple_iterator" else "list_iterator"
def oIt (t : Bool) (a : Addr) : Obj := { cls := .type (nIt t), data := .fields #[.ref a, .int 0 0] }
theorem hIt_young {t : Bool} {h : Heap} {it a : Addr} (e : h.get? it = some (oIt t a)) : hIt t h it a 0 := by
  cases t <;> exact ⟨_, e, rfl, rfl⟩
theorem hIt_there {t : Bool} {h : Heap} {it a : Addr} {i : Nat} (e : hIt t h it a i) : ∃ o, h.get? it = some o ∧ ∀ v, o.data ≠ .cell v := by
  cases t <;> (obtain ⟨o, e1, _, d⟩ := e; exact ⟨o, e1, fun v q => by rw [d] at q; cases q⟩)
theorem hIt_at {t : Bool} {h h' : Heap} {it a : Addr} {i : Nat} (e : hIt t h it a i) (k : ∀ o, h.get? it = some o → h'.get? it = some o) : hIt t h' it a i := by
  cases t
  · exact Heap.IsListIter.at e k
  · exact Heap.IsTupleIter.at e k
theorem hSq_lt {t : Bool} {h : Heap} {a : Addr} {xs : Array Value} (e : hSq t h a xs) : a < h.objs.size := by
  cases t <;> (obtain ⟨o, e1, _⟩ := e; exact Heap.lt_size e1)
theorem hSq_up {t : Bool} {h h' : Heap} {a : Addr} {xs : Array Value} (e : hSq t h a xs) (k : ∀ o, h.get? a = some o → h'.get? a = some o) : hSq t h' a xs := by
  cases t <;> (obtain ⟨o, e1, r⟩ := e; exact ⟨o, k _ e1, r⟩)
theorem sq_get {X : Cx} {pins : List (Addr × Obj)} {σ : L2.St} {H : Hp} {s : Shared} {t : Bool} {a : Addr} {xs : List V} (I : Inv X pins σ H s) (q : SqM X.K t H a xs) :
    ∃ its : List Value, Vals xs its ∧ hSq t s.heap a its.toArray := by
  cases t
  · obtain ⟨its, rv, p, _⟩ := I.list q
    exact ⟨its, rv, p.isList⟩
  · obtain ⟨its, rv, p, _⟩ := I.tuple q
    exact ⟨its, rv, p⟩
theorem sq_one {X : Cx} {pins : List (Addr × Obj)} {σ : L2.St} {H : Hp} {s : Shared} {t : Bool} {a : Addr} {xs ys : List V} (I : Inv X pins σ H s) (q : SqM X.K t H a xs) (q2 : SqM X.K t H a ys) : xs = ys := by
  cases t
  · exact I.list_inj q q2
  · exact I.tuple_inj q q2
section
variable {prog : Program} {w : World} {A : Around}
theorem drawM (hh : A.handled = none) (t : Bool) (it a : Addr) (hne : a ≠ it) (items : Array Value) :
    Draws prog w A it [it, a] items.size (fun i v => items[i]? = some v) (fun i h => hIt t h it a i ∧ hSq t h a items) := by
  cases t
  · exact Draws.list hh it a hne items
  · exact Draws.tuple hh it a hne items
theorem newM {E : Value → Shared → Prop} {s : Shared} {t : Bool} {a : Addr} {items : Array Value} {Q : Value → Shared → Prop} (hl : hSq t s.heap a items)
    (hQ : Q (.ref s.heap.objs.size) { s with heap := s.heap.push (oIt t a) }) : wpAny (model prog w) A (pyIter (.ref a)) Q E s := by
  cases t
  · exact wpAny_pyIter_list hl hQ
  · exact wpAny_pyIter_tuple hl hQ
end
/-- the five new things, one behind the other -/
def zNew (n : Nat) (t1 t2 : Bool) (a b : Addr) : List Obj :=
  [oIt t1 a, oIt t2 b, { cls := .type "tuple", data := .seq #[.ref n, .ref (n + 1)] }, { cls := .type "tuple", data := .seq #[.none, .none] },
   { cls := .type "zip", data := .fields #[.none, .bool false, .bool false, .ref (n + 2), .ref (n + 3)] }]
def pushes (h : Heap) (os : List Obj) : Heap := os.foldl Heap.push h
theorem pushes_size : ∀ (os : List Obj) (h : Heap), (pushes h os).objs.size = h.objs.size + os.length
  | [], _ => rfl
  | o :: os, h => by
    show (pushes (h.push o) os).objs.size = _
    rw [pushes_size os, Heap.size_push, List.length_cons]
    omega
theorem pushes_keep : ∀ (os : List Obj) (h : Heap) (c : Addr) (o : Obj), h.get? c = some o → (pushes h os).get? c = some o
  | [], _, _, _, e => e
  | _ :: os, h, c, o, e => pushes_keep os _ c o (Heap.get?_push_of_some _ e)
theorem pushes_get (os : List Obj) : ∀ (h : Heap) (i : Nat) (o : Obj), os[i]? = some o → o.isFreed = false → (pushes h os).get? (h.objs.size + i) = some o := by
  induction os with
  | nil => intro h i o e _; cases e
  | cons p os ih =>
    intro h i o e f
    cases i with
    | zero =>
      have e : some p = some o := e
      injection e with e
      rw [e]
      exact pushes_keep os (h.push o) _ _ (Heap.get?_push_size _ f)
    | succ i =>
      have r := ih (h.push p) i o e f
      have z : (h.push p).objs.size + i = h.objs.size + (i + 1) := by rw [Heap.size_push]; omega
      rw [z] at r
      exact r
theorem nA {x y : Nat} (h : x < y ∨ y < x) : ¬ @Eq Addr x y := fun e => by
  have e : @Eq Nat x y := e
  omega
theorem meets_new (t1 t2 : Bool) (a b : Addr) (xs ys : Array Value) :
    Meets (Builtin.«zip.__new__» ⟨[.type "zip", .ref a, .ref b], []⟩) (fun _ R s => hSq t1 s.heap a xs ∧ hSq t2 s.heap b ys ∧
      R (.ok (.ret (.ref (s.heap.objs.size + 4)))) { s with heap := pushes s.heap (zNew s.heap.objs.size t1 t2 a b) }) :=
  .of_wp fun prog w A R s h => by
    obtain ⟨hp, g, d, tk, os⟩ := s
    obtain ⟨h1, h2, h⟩ := h
    have hsub := sub_zip
    have h2 : hSq t2 (hp.push (oIt t1 a)) b ys := hSq_up h2 fun o e => Heap.get?_push_of_some _ e
    have q1 : ∀ {A' : Around} {E : Value → Shared → Prop} {Q : Value → Shared → Prop}, Q (.ref hp.objs.size) ⟨hp.push (oIt t1 a), g, d, tk, os⟩ → wpAny (model prog w) A' (pyIter (.ref a)) Q E ⟨hp, g, d, tk, os⟩ :=
      fun q => newM (s := ⟨hp, g, d, tk, os⟩) h1 q
    have q2 : ∀ {A' : Around} {E : Value → Shared → Prop} {Q : Value → Shared → Prop}, Q (.ref (hp.push (oIt t1 a)).objs.size) ⟨(hp.push (oIt t1 a)).push (oIt t2 b), g, d, tk, os⟩ → wpAny (model prog w) A' (pyIter (.ref b)) Q E ⟨hp.push (oIt t1 a), g, d, tk, os⟩ :=
      fun q => newM (s := ⟨hp.push (oIt t1 a), g, d, tk, os⟩) h2 q
    wp_walk using q1, q2
    refine ⟨_, rfl, ?_⟩
    have z1 : ∀ (h : Heap) (o : Obj), (h.push o).objs.size = h.objs.size + 1 := fun h o => Heap.size_push ..
    simp only [z1]
    exact h
section
variable {prog : Program} {w : World} {A : Around} {E : Value → Shared → Prop} {s : Shared}
theorem callM {t1 t2 : Bool} {a b : Addr} {xs ys : Array Value} {Q : Value → Shared → Prop} (h1 : hSq t1 s.heap a xs) (h2 : hSq t2 s.heap b ys)
    (h : Q (.ref (s.heap.objs.size + 4)) { s with heap := pushes s.heap (zNew s.heap.objs.size t1 t2 a b) }) :
    wpAny (model prog w) A (call (.type "zip") [.ref a, .ref b]) Q E s := by
  refine callType_new F.called_zip (by decide) (F.typeCall_zip_2 _ _) (F.newCall_zip_2 _ _) (fun obj => F.args_object_init_3 obj _ _) F.entry_zip_new
    (meets_new t1 t2 a b xs ys) ⟨h1, h2, ⟨_, pushes_get (zNew s.heap.objs.size t1 t2 a b) s.heap 4 _ rfl rfl, rfl⟩, h⟩
end
/-- a turn's pair is new -/
def ItM (K : PySem.W.Frag) (t1 t2 : Bool) (a b : Addr) : It :=
  ⟨fun i H => ∃ xs ys : List V, SqM K t1 H a xs ∧ SqM K t2 H b ys ∧ i < min xs.length ys.length,
    fun i H v H' => ∃ (T : Addr) (x y : V), v = .ref T ∧ H T = none ∧ H' = upd H T (.tup [x, y]) ∧ (∀ xs, SqM K t1 H a xs → xs[i]? = some x) ∧ ∀ ys, SqM K t2 H b ys → ys[i]? = some y,
    fun i H => ∃ xs ys : List V, SqM K t1 H a xs ∧ SqM K t2 H b ys ∧ i = min xs.length ys.length⟩
def StM (t1 t2 : Bool) (n : Nat) (a b : Addr) (i : Nat) (h : Heap) : Prop :=
  IsZip h (n + 4) (n + 2) (n + 3) .none ∧ IsTupOf2 h (n + 2) (.ref n) (.ref (n + 1)) ∧ (∃ x y, IsTupOf2 h (n + 3) x y) ∧ hIt t1 h n a i ∧ hIt t2 h (n + 1) b i
def five (n : Nat) : List Addr := [n + 4, n + 2, n + 3, n, n + 1]
theorem sepM {n a b : Nat} (ha : a < n) (hb : b < n) : ZipSep2 (n + 4) (n + 2) (n + 3) n (n + 1) [n, a] [n + 1, b] := by
  constructor <;> simp only [List.mem_cons, List.not_mem_nil, or_false, ne_eq, not_or, true_or, or_true] <;> first | exact nA (by omega) | exact ⟨nA (by omega), nA (by omega)⟩
theorem turnM {P : Program} {w : World} {K : PySem.W.Frag} {elts : List Expr} {kk : Nat} {tpos : Pos} {t1 t2 : Bool} {n a b : Nat} (ha : a < n) (hb : b < n) :
    Turn P w K (.Tuple elts kk tpos) (ItM K t1 t2 a b) (five n) (n + 4) (StM t1 t2 n a b) where
  mem := List.mem_cons_self
  obj := fun i h st c hc => by
    obtain ⟨g1, g2, ⟨x, y, g3⟩, g4, g5⟩ := st
    simp only [five, List.mem_cons, List.not_mem_nil, or_false] at hc
    rcases hc with q | q | q | q | q <;> subst q
    · exact ⟨_, g1, fun v q => nomatch q⟩
    · exact ⟨_, g2, fun v q => nomatch q⟩
    · exact ⟨_, g3, fun v q => nomatch q⟩
    · exact hIt_there g4
    · exact hIt_there g5
  keep := fun i h h' st k => by
    obtain ⟨g1, g2, ⟨x, y, g3⟩, g4, g5⟩ := st
    have k : ∀ d ∈ five n, ∀ o, h.get? d = some o → h'.get? d = some o := k
    simp only [five, List.forall_mem_cons, List.not_mem_nil] at k
    exact ⟨k.1 _ g1, k.2.1 _ g2, ⟨x, y, k.2.2.1 _ g3⟩, hIt_at g4 k.2.2.2.1, hIt_at g5 k.2.2.2.2.1⟩
  item := by
    intro X hP hw hK hc i pins s σ H E I hf st hg
    subst hP hw hK
    obtain ⟨g1, g2, ⟨x0, y0, g3⟩, g4, g5⟩ := st
    obtain ⟨xs, ys, qx, qy, hi⟩ := hg
    obtain ⟨us, rx, px⟩ := sq_get I qx
    obtain ⟨vs, ry, py⟩ := sq_get I qy
    have lx := rx.length
    have ly := ry.length
    have hdl : X.A.in1.handled = none := I.ok.hd hc
    refine wpAny_pyNext_zipD2_item (sepM ha hb) (drawM hdl t1 n a (Nat.ne_of_lt ha) us.toArray) (drawM hdl t2 (n + 1) b (Nat.ne_of_lt (Nat.lt_succ_of_lt hb)) vs.toArray) g1 g2 g3 ⟨g4, px⟩ ⟨g5, py⟩
      (by rw [List.size_toArray]; omega) (by rw [List.size_toArray]; omega) fun u v h' tk hu hv z1 z3 d1 d2 hT hsz hk => ?_
    have hzl : n + 4 < s.heap.objs.size := Heap.lt_size g1
    refine ⟨_, rfl, wpAny_letOwnedTupleGo_zip (s := { s with heap := h', toks := tk }) z1 fun h2 z2 sb => ?_⟩
    have hT2 : h2.get? s.heap.objs.size = some { cls := .type "tuple", data := .seq #[u, v] } := (sb.2 _ (Nat.ne_of_gt hzl)).trans hT
    obtain ⟨x, ex, rux⟩ : ∃ x, xs[i]? = some x ∧ RelV x u := by
      obtain ⟨u', hu', ru⟩ := rx.get (List.getElem?_eq_getElem (show i < xs.length by omega))
      have : us[i]? = some u := by simpa using hu
      rw [this] at hu'
      cases hu'
      exact ⟨_, List.getElem?_eq_getElem _, ru⟩
    obtain ⟨y, ey, rvy⟩ : ∃ y, ys[i]? = some y ∧ RelV y v := by
      obtain ⟨v', hv', rv⟩ := ry.get (List.getElem?_eq_getElem (show i < ys.length by omega))
      have : vs[i]? = some v := by simpa using hv
      rw [this] at hv'
      cases hv'
      exact ⟨_, List.getElem?_eq_getElem _, rv⟩
    have out : ∀ c, c ∉ five n → c ≠ n + 4 ∧ c ≠ n + 3 ∧ c ≠ n ∧ c ≠ n + 1 := fun c hc => by
      simp only [five, List.mem_cons, List.not_mem_nil, or_false, not_or] at hc
      exact ⟨hc.1, hc.2.2.1, hc.2.2.2.1, hc.2.2.2.2⟩
    have young : ObjOk X.prog X.w (upd H s.heap.objs.size (.tup [x, y])) h2 s.heap.objs.size (.tup [x, y]) :=
      ⟨by show 2 ≤ sizeLine; decide, [u, v], .cons rux (.cons rvy .nil), ⟨_, hT2, rfl, _, rfl⟩⟩
    have I1 : Inv X pins σ (upd H s.heap.objs.size (.tup [x, y])) { s with heap := h2, toks := tk } :=
      I.turnedNew (t' := tk) (ch := five n) (fun c o hb q => by
        obtain ⟨c1, c2, c3, c4⟩ := out c hb
        exact (sb.2 c c1).trans (hk c o c1 c2 c3 c4 q)) hf (Nat.le_refl _) young
    refine ⟨.ref s.heap.objs.size, _, I1, rfl, ⟨_, x, y, rfl, I.hok.fresh (Nat.le_refl _), rfl, fun l hl => by rw [sq_one I hl qx]; exact ex, fun l hl => by rw [sq_one I hl qy]; exact ey⟩, ?_, fun c hcm => ?_⟩
    · have sbk : ∀ c o, c ≠ n + 4 → h'.get? c = some o → h2.get? c = some o := fun c o hc e => (sb.2 c hc).trans e
      have dz : ∀ k : Nat, @LT.lt Nat _ k 4 → ¬ @Eq Addr (n + k) (n + 4) := fun k hk => nA (by omega)
      exact ⟨z2, sbk _ _ (dz 2 (by decide)) (hk _ _ (dz 2 (by decide)) (@nA (n + 2) (n + 3) (by omega)) (@nA (n + 2) n (by omega)) (@nA (n + 2) (n + 1) (by omega)) g2), ⟨u, v, sbk _ _ (dz 3 (by decide)) z3⟩, hIt_at d1.1 fun o e => sbk _ _ (dz 0 (by decide)) e, hIt_at d2.1 fun o e => sbk _ _ (dz 1 (by decide)) e⟩
    · have hlt : c < s.heap.objs.size := by
        have hzl : @LT.lt Nat _ (n + 4) s.heap.objs.size := hzl
        simp only [five, List.mem_cons, List.not_mem_nil, or_false] at hcm
        rcases hcm with q | q | q | q | q <;> subst q <;> show @LT.lt Nat _ _ _ <;> omega
      rw [upd_ne (Nat.ne_of_lt hlt)]
      exact (hf c hcm).1
  done := by
    intro X hP hw hK hc i pins s σ H E I hf st hg
    subst hP hw hK
    obtain ⟨g1, g2, ⟨x0, y0, g3⟩, g4, g5⟩ := st
    obtain ⟨xs, ys, qx, qy, hi⟩ := hg
    obtain ⟨us, rx, px⟩ := sq_get I qx
    obtain ⟨vs, ry, py⟩ := sq_get I qy
    have lx := rx.length
    have ly := ry.length
    have hdl : X.A.in1.handled = none := I.ok.hd hc
    refine wpAny_pyNext_zipD2_end (sepM ha hb) (drawM hdl t1 n a (Nat.ne_of_lt ha) us.toArray) (drawM hdl t2 (n + 1) b (Nat.ne_of_lt (Nat.lt_succ_of_lt hb)) vs.toArray) g1 g2 g3 ⟨g4, px⟩ ⟨g5, py⟩
      (by rw [List.size_toArray]; omega) (by rw [List.size_toArray]; omega) (by rw [List.size_toArray, List.size_toArray]; omega) fun h' tk hk => ⟨rfl, I.turnedL (t' := tk) (ch := five n) (fun c o hb q => ?_) hf⟩
    simp only [five, List.mem_cons, List.not_mem_nil, or_false, not_or] at hb
    exact hk c o hb.1 hb.2.2.1 hb.2.2.2.1 hb.2.2.2.2 q
  self := fun A i s Q E st h => wpAny_pyIter_zip st.1 h
def iZipM (K : PySem.W.Frag) (t1 t2 : Bool) (ta : TA) : TI := fun σ H R => ta σ H fun vs H1 => ∃ (a b : Addr) (xs ys : List V), vs = [.ref a, .ref b] ∧ SqM K t1 H1 a xs ∧ SqM K t2 H1 b ys ∧ R (ItM K t1 t2 a b) H1
theorem pi_zipM {X : Cx} (t1 t2 : Bool) {e e2 : Expr} {ta : TA} {p pos tpos : Pos} {elts : List Expr} {kk : Nat} (hg : Gl X "zip") (hm : X.mg "zip" = none) (ha : PA X [e, e2] ta)
    (hs : starEach [e, e2] X.env = (false, eval e X.env) :: starEach [e2] X.env := by rfl) (hpl : (backTo pos (starEach [e2] X.env)).any (·.1) = false := by rfl) :
    PI X (.Tuple elts kk tpos) (.Call (.Name "zip" p) [e, e2] [] pos) (iZipM X.K t1 t2 ta) := by
  refine ⟨fun pins s σ H R I h => ?_⟩
  refine Call_ (ld_blt I hg hm PyProof.Rows.boot_zip (PyProof.Rows.callWith_type1 (thn (ha.run pos pins s σ H _ I h) fun us s1 ⟨vs, H1, I1, r1, q1⟩ => ?_) hs hpl))
  obtain ⟨a, b, xs, ys, rfl, qx, qy, q⟩ := q1
  obtain ⟨u1, us, rfl, r, r1⟩ : ∃ u1 us', us = u1 :: us' ∧ RelV (.ref a) u1 ∧ Vals [.ref b] us' := by cases r1 with | cons r rr => exact ⟨_, _, rfl, r, rr⟩
  obtain ⟨u2, rfl, r2⟩ := vals1 r1
  cases r
  cases r2
  obtain ⟨is1, rx, px⟩ := sq_get I1 qx
  obtain ⟨is2, ry, py⟩ := sq_get I1 qy
  have la := hSq_lt px
  have lb := hSq_lt py
  refine callM px py ?_
  have gt := fun i o e f => pushes_get (zNew s1.heap.objs.size t1 t2 a b) s1.heap i o e f
  refine wpAny_pyIter_zip (gt 4 _ rfl rfl) ?_
  have I2 : Inv X pins σ H1 { s1 with heap := pushes s1.heap (zNew s1.heap.objs.size t1 t2 a b) } := I1.kept (t' := s1.toks) fun c o e => pushes_keep _ _ c o e
  refine ⟨s1.heap.objs.size + 4, five s1.heap.objs.size, _, _, H1, rfl, I2, turnM la lb, ⟨gt 4 _ rfl rfl, gt 2 _ rfl rfl, ⟨_, _, gt 3 _ rfl rfl⟩, hIt_young (gt 0 _ rfl (by cases t1 <;> rfl)), hIt_young (gt 1 _ rfl (by cases t2 <;> rfl))⟩, fun c hc => ?_, q⟩
  have hle : s1.heap.objs.size ≤ c := by
    simp only [five, List.mem_cons, List.not_mem_nil, or_false] at hc
    rcases hc with q | q | q | q | q <;> subst q <;> show @LE.le Nat _ _ _ <;> omega
  exact I1.fpOk hle (I1.hok.fresh hle)
/-- walked -/
theorem walk_zipM {K : PySem.W.Frag} {t1 t2 : Bool} {a b : Addr} {xs ys : List V} {n : Nat} (hn : n = min xs.length ys.length) :
    Walk (ItM K t1 t2 a b) n (fun H => SqM K t1 H a xs ∧ SqM K t2 H b ys) (YPair (fun i => xs[i]?) (fun i => ys[i]?)) := by
  subst hn
  refine ⟨fun i _ hi q => ⟨xs, ys, q.1, q.2, hi⟩, fun _ q => ⟨xs, ys, q.1, q.2, rfl⟩, fun i H v H' _ q y => ?_⟩
  obtain ⟨T, x, z, h1, h2, h3, h4, h5⟩ := y
  exact ⟨T, x, z, h1, h2, h3, h4 xs q.1, h5 ys q.2⟩
end Zm

set_option Elab.async false
set_option linter.all false
set_option maxRecDepth 100000
set_option maxHeartbeats 1000000
/-! own rules: max(xs, key=lambda x: e) and min, xs a list or a tuple (Zm.SqM), e any expression over the def's shared names and x -/
namespace Lm
open PySem PySem.Spec PyProof.Rows L2 LamX
/-- one parameter, no other name of its own -/
structure LamP (sc scope : Scope) (x : Str) : Prop where
  kind : scope.kind = .function
  co : scope.isCoroutine = false
  gen : scope.isGenerator = false
  par : scope.names.lookup x = some .local
  one : ∀ y ∈ scope.names, y.2 = .local → y.1 = x
  nocell : ∀ y ∈ scope.names, y.2 ≠ .cell
  free : ∀ y ∈ scope.names, y.2 = .free → sc.names.lookup y.1 = some .cell
def lamPB (sc scope : Scope) (x : Str) : Bool :=
  decide (scope.kind = .function) && (!scope.isCoroutine && (!scope.isGenerator && (decide (scope.names.lookup x = some .local) && scope.names.all fun y =>
    (!decide (y.2 = .local) || decide (y.1 = x)) && (!decide (y.2 = .cell) && (!decide (y.2 = .free) || decide (sc.names.lookup y.1 = some .cell))))))
theorem lamP_by {sc scope : Scope} {x : Str} (h : lamPB sc scope x = true) : LamP sc scope x := by
  unfold lamPB at h
  simp only [Bool.and_eq_true, Bool.or_eq_true, Bool.not_eq_true', decide_eq_true_eq, decide_eq_false_iff_not, List.all_eq_true] at h
  obtain ⟨h1, h2, h3, h4, h5⟩ := h
  exact ⟨h1, h2, h3, h4, fun y hy e => (h5 y hy).1.resolve_left fun z => z e, fun y hy => (h5 y hy).2.1, fun y hy e => (h5 y hy).2.2.resolve_left fun z => z e⟩
section
variable {X : Cx} {pins : List (Addr × Obj)} {σ : L2.St} {H : Hp} {s : Shared}
theorem LamP.has {scope : Scope} {x : Str} (L : LamP X.env.scope scope x) (ok : X.Ok) : ∀ y ∈ scope.names, y.2 = .free → ∃ c, X.env.cells.lookup y.1 = some c := fun y hy e => ok.has _ (.inl (L.free y hy e))
/-- what the lambda shares is what the def has -/
theorem clo_sub {scope : Scope} {x : Str} (L : LamP X.env.scope scope x) (ok : X.Ok) {y : Str} {c : Addr} (e : (cloFrom X.env.cells scope.names []).lookup y = some c) : X.env.cells.lookup y = some c := by
  rcases cloFrom_mem (PySem.mem_of_lookup e) with h | ⟨h, hc⟩
  · exact absurd h List.not_mem_nil
  · obtain ⟨d, hd⟩ := L.has ok _ h rfl
    have hd : X.env.cells.lookup y = some d := hd
    have hc : c = (X.env.cells.lookup y).getD 0 := hc
    rw [hd] at hc
    rw [hd, show c = d from hc]
theorem clo_there {scope : Scope} {y : Str} (h : scope.names.lookup y = some .free) : ∃ c, (cloFrom X.env.cells scope.names []).lookup y = some c :=
  mem_lookup (cloFrom_has (cells := X.env.cells) (acc := []) (PySem.mem_of_lookup h))
/-- the lambda's own context, just entered -/
theorem lam_in {A : Around} {E : XK} {scope : Scope} {x : Str} {f c' : Addr} {i : Nat} {v : V} {u : Value} {h1 : Heap} {tk : Nat} (I : Inv X pins σ H s) (L : LamP X.env.scope scope x)
    (e0 : Env0 X.prog X.w X.K X.mg X.base A X.stack s H) (hd : A.handled = none) (hns : h1.Ns s.heap.objs.size fun y => [(x, u)].reverse.lookup y) (kp : ∀ b o, s.heap.get? b = some o → h1.get? b = some o)
    (hN : X.N[i]? = some x) (nd : X.N.Nodup) (r : RelV v u) : Inv (lamCx X A X.stack s H E scope f c') [] (σ.set i (some v)) H { s with heap := h1, toks := tk } := by
  have cellK : ∀ {c : Addr} {z : Option Value}, s.heap.IsCell c z → h1.IsCell c z := fun ⟨o, ho, hd⟩ => ⟨o, kp _ _ ho, hd⟩
  have none_ex : ∀ b : Addr, b ∉ (lamCx X A X.stack s H E scope f c').ex := fun b => List.not_mem_nil
  constructor
  · constructor
    · exact e0.mod
    · exact L.kind
    · rfl
    · rfl
    · exact Nat.le_refl _
    · exact fun y z c a b => I.ok.inj y z c (clo_sub L I.ok a) (clo_sub L I.ok b)
    · intro y hy
      have hy : scope.names.lookup y = some .cell ∨ scope.names.lookup y = some .free := hy
      rcases hy with h | h
      · exact absurd rfl (L.nocell _ (PySem.mem_of_lookup h))
      · exact clo_there h
    · intro y c z
      exact absurd (show false = true from z) Bool.false_ne_true
    · exact fun _ => hd
    · exact Around.frames_deeper e0.frames
    · exact .inr ⟨rfl, rfl⟩
    · exact fun b z => absurd z (none_ex b)
    · exact e0.bs
    · exact e0.bsz
    · exact fun b _ _ => none_ex b
    · exact fun b z => absurd z (none_ex b)
    · exact e0.funs
    · exact e0.frf
  · rfl
  · exact e0.bare
  · exact Un.kept kp
  · refine ⟨_, hns, fun j y w hj hw hv => ?_⟩
    have hj : X.N[j]? = some y := hj
    have hv : Vis scope y := hv
    have other : scope.names.lookup y = some .free → ∃ w', RelV w w' ∧ Look (lamEnv X scope s.heap.objs.size f c') h1 (fun y => [(x, u)].reverse.lookup y) y w' := fun k => by
      have hyx : j ≠ i := fun z => by
        rw [z, hN] at hj
        cases hj
        rw [L.par] at k
        cases k
      rw [List.getElem?_set_ne (fun z => hyx z.symm)] at hw
      obtain ⟨m, _, hl⟩ := I.loc
      have kc := L.free _ (PySem.mem_of_lookup k) rfl
      obtain ⟨w', rw', lk⟩ := hl j y w hj hw (.inr (.inl kc))
      refine ⟨w', rw', .inr ⟨.inr k, ?_⟩⟩
      obtain ⟨d, hd'⟩ := clo_there (X := X) k
      have hd2 := clo_sub L I.ok hd'
      rcases lk with ⟨k', _⟩ | ⟨_, d3, e3, hc⟩
      · rw [show X.env.kindOf y = some .cell from kc] at k'
        cases k'
      · rw [hd2] at e3
        cases e3
        exact ⟨d, hd', cellK hc⟩
    rcases hv with k | k | k
    · have hyx : y = x := L.one _ (PySem.mem_of_lookup k) rfl
      subst hyx
      have hji : j = i := by
        obtain ⟨hj1, hj2⟩ := List.getElem?_eq_some_iff.mp hj
        obtain ⟨hi1, hi2⟩ := List.getElem?_eq_some_iff.mp hN
        rcases Nat.lt_trichotomy j i with z | z | z
        · exact absurd (hj2.trans hi2.symm) (List.pairwise_iff_getElem.mp nd j i hj1 hi1 z)
        · exact z
        · exact absurd (hi2.trans hj2.symm) (List.pairwise_iff_getElem.mp nd i j hi1 hj1 z)
      subst hji
      have hl : j < σ.length := by
        rw [I.len]
        exact (List.getElem?_eq_some_iff.mp hN).1
      rw [List.getElem?_set_self hl] at hw
      cases hw
      refine ⟨u, r, .inl ⟨k, ?_⟩⟩
      show [(y, u)].lookup y = some u
      rw [List.lookup_cons, beq_self_eq_true]
    · exact absurd rfl (L.nocell _ (PySem.mem_of_lookup k))
    · exact other k
  · intro y c e
    obtain ⟨z, hz⟩ := I.cell y c (clo_sub L I.ok e)
    exact ⟨z, cellK hz⟩
  · exact e0.hok.fresh (Nat.le_refl _)
  · exact fun y c e => I.freeC y c (clo_sub L I.ok e)
  · exact fun q hq => absurd (show q ∈ ([] : List (Addr × Obj)) ++ [] from hq) List.not_mem_nil
  · exact e0.hok.kept kp
  · rw [List.length_set]
    exact I.len
/-- the lambda called with one thing, within a builtin -/
theorem lam_call {k i : Nat} {x : Str} {f c' : Addr} {params : Arguments} {body : Expr} {scope : Scope} {pm ctv u : Value} {v : V} {tb : TE} {Q : VK} {E : Value → Shared → Prop} (I : Inv X pins σ H s) (L : LamP X.env.scope scope x)
    (hf : s.heap.get? f = some (PySem.W.kla_obj "<lambda>" (X.env.qual ++ "<lambda>") params body scope (cloFrom X.env.cells scope.names []) pm c' ctv)) (hco : H c' = some (CodeO c' (X.env.qual ++ "<lambda>")))
    (hbind : ∀ v : Value, bindArgs (PySem.W.kla_fn "<lambda>" (X.env.qual ++ "<lambda>") params body scope (cloFrom X.env.cells scope.names []) pm (.ref c') ctv) ⟨[v], []⟩ = pure [(x, v)])
    (hr : Room (k + 2) X.A) (hd : X.A.handled = none) (hbody : ∀ (A : Around) (outer : List Env) (s : Shared) (H : Hp), Room k (A.deeper (lamEnv X scope s.heap.objs.size f c')) → PE (lamCx X A outer s H E0 scope f c').nox body tb)
    (hN : X.N[i]? = some x) (nd : X.N.Nodup) (r : RelV v u) (ht : tb (σ.set i (some v)) H Q) :
    wpAny (model X.prog X.w) X.A.in1 (call (.ref f) [u]) (fun u' s' => ∃ (v' : V) (H' : Hp), Inv X pins σ H' s' ∧ Un (frs X.stack) [] H H' s.heap s'.heap ∧ RelV v' u' ∧ Q v' H') E s := by
  obtain ⟨⟨oc, us, tq, o1, o2, o3⟩, _, _⟩ := I.hok c' _ hco
  have hr1 : Room (k + 1) X.A.in1 := hr.in1
  refine wpAny_call (PySem.W.kla_callFunE hr1.depth hf rfl L.co L.gen rfl ⟨c', oc, us, tq, rfl, o1, o2, o3⟩ ?_)
  rw [hbind]
  refine wpAny_pure (wpAny_newFunctionEnv L.nocell (fun z hz => by rw [List.mem_singleton.mp hz]; exact L.par) (fun h1 hns hsb => ⟨I.nolimit.fresh _ hsb, ?_⟩) L.kind)
  have kp : ∀ b o, s.heap.get? b = some o → h1.get? b = some o := fun b o e => hsb.extBut b o (Nat.ne_of_lt (Heap.lt_size e)) (Heap.get?_push_of_some _ e)
  have e0 : Env0 X.prog X.w X.K X.mg X.base X.A.in1 X.stack s H := I.env0.in1
  have J := lam_in (E := E0) (f := f) (c' := c') (tk := s.toks + ([(x, u)] : List (Str × Value)).length) I L e0 hd hns kp hN nd r
  refine PySem.W.kla_codeExpr (wpAny_mono ((hbody _ _ s H (hr1.deeper _)).run [] _ _ H Q (J.wish _) ht) (fun v' s' hq => ?_) fun e s' hq => hq.elim)
  obtain ⟨w', H', J', rv, q⟩ := hq
  have J2 := J'.unwish
  exact ⟨w', H', I.call' J2.os J2.base J2.hok J2.bare (fun b z => absurd z List.not_mem_nil), J2.base, rv, q⟩
end
/-- the first of the greatest -/
def FirstMost (kf : Nat → Int) (n j : Nat) : Prop := Cl.FirstLeast (fun i => -kf i) n j
theorem most_is (kf : Nat → Int) (n : Nat) : FirstMost kf (n + 1) (argBest (fun i j => decide (kf i > kf j)) n) := by
  have e : (fun i j => decide (kf i > kf j)) = fun i j => decide (-kf i < -kf j) := by
    funext i j
    exact decide_eq_decide.mpr ⟨fun z => by omega, fun z => by omega⟩
  rw [e]
  exact Cl.best_is _ n
open Zm (SqM hSq hIt nIt oIt newM sq_get)
theorem sqM_ext {K : PySem.W.Frag} {t : Bool} {H H' : Hp} {a : Addr} {xs : List V} (e : ExtN H H') (h : SqM K t H a xs) : SqM K t H' a xs := by
  cases t
  · exact e.sqL h
  · exact e.sqT h
section
variable {prog : Program} {w : World} {A : Around}
/-- the library's walk, told of the values' readings -/
theorem walkM (hh : A.handled = none) (t : Bool) (it a : Addr) (hne : a ≠ it) (xs : List V) :
    WalksS prog w A it [it, a] [it] (fun a b => b = a) xs.length (fun i v => ∃ y, xs[i]? = some y ∧ RelV y v) (fun i s => hIt t s.heap it a i ∧ ∃ its : List Value, Vals xs its ∧ hSq t s.heap a its.toArray) := by
  have base : ∀ its : List Value, WalksS prog w A it [it, a] [it] (fun a b => b = a) its.toArray.size (fun i v => its.toArray[i]? = some v) (fun i s => hIt t s.heap it a i ∧ hSq t s.heap a its.toArray) := fun its => by
    cases t
    · exact (Walks.list (A := A) hh it a hne its.toArray).toS
    · exact (Walks.tuple (A := A) hh it a hne its.toArray).toS
  have size : ∀ {its : List Value}, Vals xs its → its.toArray.size = xs.length := fun r => by
    rw [List.size_toArray]
    exact r.length.symm
  constructor
  · exact (base []).sub
  · exact (base []).grefl
  · exact (base []).gtrans
  · rintro i s h' tk ⟨st, its, r, p⟩ le k
    obtain ⟨a1, a2⟩ := (base its).frame i s h' tk ⟨st, p⟩ le k
    exact ⟨a1, its, r, a2⟩
  · rintro i s Q E hi ⟨st, its, r, p⟩ hQ
    refine (base its).item i s Q E (by rw [size r]; exact hi) ⟨st, p⟩ fun v s' hv st' m => hQ v s' ?_ ⟨st'.1, its, r, st'.2⟩ m
    obtain ⟨v', e1, rr⟩ := r.get (List.getElem?_eq_getElem hi)
    have hv : its[i]? = some v := by simpa using hv
    rw [hv] at e1
    cases e1
    exact ⟨_, List.getElem?_eq_getElem hi, rr⟩
  · rintro s Q E ⟨st, its, r, p⟩ hQ
    exact (base its).done s Q E ⟨by rw [size r]; exact st, p⟩ hQ
  · rintro i s Q E ⟨st, its, r, p⟩ hQ
    exact (base its).self i s Q E ⟨st, p⟩ hQ
end
/-- what the key is asked of, and what comes of it -/
def tBestLam (K : PySem.W.Frag) (best : (Nat → Int) → Nat → Nat → Prop) (t : Bool) (T : List (Addr × Str)) (i : Nat) (te tb : TE) : TE := fun σ H Q => te σ H fun v H1 => ∃ (a : Addr) (xs : List V) (kf : Nat → Int), v = .ref a ∧ SqM K t H1 a xs ∧ 0 < xs.length ∧ Tabs T H1 ∧
  ∀ (H2 : Hp), ExtN H1 H2 → Tabs T H2 →
    (∀ (j : Nat) (y : V) (H' : Hp), xs[j]? = some y → ExtN H2 H' → Tabs T H' → tb (σ.set i (some y)) H' fun k H'' => k = .int (kf j) ∧ ExtN H' H'' ∧ Tabs T H'') ∧
    ∀ (j : Nat) (y : V) (H' : Hp), best kf xs.length j → xs[j]? = some y → ExtN H2 H' → Tabs T H' → Q y H'
section
variable {X : Cx}
/-- the loop's state between two keys, and one key -/
structure KeySt (X : Cx) (pins : List (Addr × Obj)) (σ : L2.St) (t : Bool) (T : List (Addr × Str)) (H2 : Hp) (a f c' it S : Addr) (xs : List V) (lo : Obj) (s' : Shared) (H' : Hp) : Prop where
  inv : Inv X pins σ H' s'
  ext : ExtN H2 H'
  tab : Tabs T H'
  sq : SqM X.K t H' a xs
  lam : s'.heap.get? f = some lo
  nf : H' f = none
  fS : FpOk X pins H' S
  fI : FpOk X pins H' it
variable {pins : List (Addr × Obj)} {σ : L2.St} {t : Bool} {T : List (Addr × Str)} {H2 : Hp} {a f c' it S : Addr} {xs : List V} {lo : Obj}
theorem KeySt.moved {s4 s5 : Shared} {H' : Hp} (k : KeySt X pins σ t T H2 a f c' it S xs lo s4 H') (hS : f ≠ S) (hI : f ≠ it) (m : Moved [S, it] (fun a b => b = a) s4 s5) : KeySt X pins σ t T H2 a f c' it S xs lo s5 H' := by
  have e5 : s5 = { s4 with heap := s5.heap, toks := s5.toks } := by
    obtain ⟨hp, g, d, tk, os⟩ := s5
    have h1 : g = s4.gens := m.gens
    have h2 : d = s4.drawn := m.drawn
    have h3 : os = s4.os := m.os
    subst h1 h2 h3
    rfl
  refine ⟨?_, k.ext, k.tab, k.sq, m.heap _ _ (fun hm => ?_) k.lam, k.nf, k.fS, k.fI⟩
  · rw [e5]
    exact k.inv.turnedL (ch := [S, it]) (fun c o hc ho => m.heap c o hc ho) (fun b hb => by
      rcases List.mem_cons.mp hb with z | hb
      · rw [z]; exact k.fS
      · rw [List.mem_singleton.mp hb]; exact k.fI)
  · rcases List.mem_cons.mp hm with z | hm
    · exact hS z
    · exact hI (List.mem_singleton.mp hm)
theorem FpOk.through {b : Addr} {ob : Obj} {s4 s5 : Shared} {H' H'' : Hp} (I : Inv X pins σ H' s4) (un : Un (frs X.stack) [] H' H'' s4.heap s5.heap) (hb : s4.heap.get? b = some ob) (fp : FpOk X pins H' b) : FpOk X pins H'' b ∧ s5.heap.get? b = some ob := by
  refine ⟨⟨un.free b ob hb fp.1 List.not_mem_nil, fp.2⟩, un.keep b ob hb fp.1 (fun z => ?_) List.not_mem_nil⟩
  rcases List.mem_cons.mp (I.stkSub _ z) with w | w
  · exact fp.2.1 w
  · exact fp.2.2.1 w
/-- both builtins, behind the making of the lambda -/
theorem best_run {k i : Nat} {x : Str} {params : Arguments} {body : Expr} {scope : Scope} {pm ctv : Value} {kf : Nat → Int} {tb : TE} {s2 : Shared} {Q : VK} (w : Bool) (I2 : Inv X pins σ H2 s2) (hr : Room (k + 2) X.A) (hh : X.A.handled = none)
    (L : LamP X.env.scope scope x) (hN : X.N[i]? = some x) (nd : X.N.Nodup) (hsq : SqM X.K t H2 a xs) (hne : 0 < xs.length) (T2 : Tabs T H2)
    (hf : s2.heap.get? f = some (PySem.W.kla_obj "<lambda>" (X.env.qual ++ "<lambda>") params body scope (cloFrom X.env.cells scope.names []) pm c' ctv)) (hfn : H2 f = none) (hff : f ∉ frs X.stack) (hco : H2 c' = some (CodeO c' (X.env.qual ++ "<lambda>")))
    (hbind : ∀ (q : Str) (cl : List (Str × Addr)) (pm cv ctv v : Value), bindArgs (PySem.W.kla_fn "<lambda>" q params body scope cl pm cv ctv) ⟨[v], []⟩ = pure [(x, v)])
    (hbody : ∀ (A : Around) (outer : List Env) (s : Shared) (H : Hp) (f c' : Addr), Room k (A.deeper (lamEnv X scope s.heap.objs.size f c')) → PE (lamCx X A outer s H E0 scope f c').nox body tb)
    (qk : ∀ (j : Nat) (y : V) (H' : Hp), xs[j]? = some y → ExtN H2 H' → Tabs T H' → tb (σ.set i (some y)) H' fun k H'' => k = .int (kf j) ∧ ExtN H' H'' ∧ Tabs T H'')
    (qf : ∀ (j : Nat) (y : V) (H' : Hp), (if w = true then FirstMost kf xs.length j else Cl.FirstLeast kf xs.length j) → xs[j]? = some y → ExtN H2 H' → Tabs T H' → Q y H') :
    wpAny (model X.prog X.w) X.A (call (.builtin (if w = true then "max" else "min")) [.ref a] [(Str.ofString "key", .ref f)]) (EP X pins σ Q) X.xe s2 := by
  obtain ⟨its, rv0, p0⟩ := sq_get I2 hsq
  have hnI := I2.hok.fresh (Nat.le_refl s2.heap.objs.size)
  have flt : f < s2.heap.objs.size := Heap.lt_size hf
  have alt := Zm.hSq_lt p0
  -- what is the same for both
  have core : ∀ (bt : Nat → Nat → Bool) (op : CmpOp), (∀ i j ki kj (s : Shared) (Q : Value → Shared → Prop) (E : Value → Shared → Prop), (∃ t, ki = .int (kf i) t) → (∃ t, kj = .int (kf j) t) → Q (.bool (bt i j)) s → wpAny (model X.prog X.w) X.A.in1 (richCompare op ki kj) Q E s) →
      (∀ j y H', j = argBest bt (xs.length - 1) → xs[j]? = some y → ExtN H2 H' → Tabs T H' → Q y H') →
      wpAny (model X.prog X.w) X.A.in1 (pyIter (.ref a)) (fun it s₂ => ∃ I fp wr G n P St J V bt, it = .ref I ∧ WalksS X.prog X.w X.A.in1 I fp wr G n P St ∧ St 0 s₂ ∧ (∀ b ∈ fp, b < s₂.heap.objs.size) ∧ 0 < n ∧
        KeyRun X.prog X.w X.A.in1 (.ref f) op s₂.heap.objs.size wr G n P St J V bt ∧ J s₂ ∧ ∀ v s', P (argBest bt (n - 1)) v → J s' → EP X pins σ Q v s') X.xe s2 := fun bt op hcmp hend => by
    refine newM p0 ?_
    have szp : (s2.heap.push (oIt t a)).objs.size = s2.heap.objs.size + 1 := Heap.size_push ..
    have ltp : s2.heap.objs.size < (s2.heap.push (oIt t a)).objs.size := by rw [szp]; exact Nat.lt_succ_self _
    have fpI : FpOk X pins H2 s2.heap.objs.size := I2.fpOk (Nat.le_refl _) hnI
    have fpS : FpOk X pins H2 (s2.heap.push (oIt t a)).objs.size := I2.fpOk (Nat.le_of_lt ltp) (I2.hok.fresh (Nat.le_of_lt ltp))
    have hfI : f ≠ s2.heap.objs.size := fun z => by rw [z] at flt; exact Nat.lt_irrefl _ flt
    have hfS : f ≠ (s2.heap.push (oIt t a)).objs.size := fun z => by
      rw [z] at flt
      exact Nat.lt_irrefl _ (Nat.lt_trans flt ltp)
    refine ⟨s2.heap.objs.size, _, _, _, xs.length, _, _, fun s' => ∃ H', KeySt X pins σ t T H2 a f c' s2.heap.objs.size (s2.heap.push (oIt t a)).objs.size xs (PySem.W.kla_obj "<lambda>" (X.env.qual ++ "<lambda>") params body scope (cloFrom X.env.cells scope.names []) pm c' ctv) s' H',
      fun i k _ => ∃ t, k = .int (kf i) t, bt, rfl, walkM (prog := X.prog) (w := X.w) (A := X.A.in1) hh t s2.heap.objs.size a (Nat.ne_of_lt alt) xs, ⟨Zm.hIt_young (Heap.get?_push_size _ (by cases t <;> rfl)), its, rv0, Zm.hSq_up p0 fun o e => Heap.get?_push_of_some _ e⟩, fun b hb => ?_, hne, ⟨?_, ?_, ?_, ?_⟩, ?_, ?_⟩
    · show b < (s2.heap.push (oIt t a)).objs.size
      rcases List.mem_cons.mp hb with z | hb
      · rw [z]; exact ltp
      · rw [List.mem_singleton.mp hb]; exact Nat.lt_trans alt ltp
    · rintro s4 s5 ⟨H', k'⟩ m
      exact ⟨H', k'.moved hfS hfI m⟩
    · exact fun i k s1 s' v _ => v
    · rintro j v s4 o Q' E' hj ⟨y, hy, ry⟩ ⟨H', k'⟩ ⟨stI, its', rv', stL⟩ hS cont
      have hco' : H' c' = some (CodeO c' (X.env.qual ++ "<lambda>")) := k'.ext _ _ hco codeO_ne
      refine wpAny_mono (lam_call (Q := fun k H'' => k = .int (kf j) ∧ ExtN H' H'' ∧ Tabs T H'') k'.inv L k'.lam hco' (fun v => hbind _ _ _ _ _ v) hr hh (fun A outer s H hr2 => hbody A outer s H f c' hr2) hN nd ry (qk j y H' hy k'.ext k'.tab)) (fun u' s5 hq => ?_) fun _ _ z => z
      obtain ⟨v', H'', I'', un, rv2, ek, sm, tb2⟩ := hq
      subst ek
      obtain ⟨tk, rfl⟩ := rv2
      obtain ⟨oi, hoi, _⟩ := Zm.hIt_there stI
      obtain ⟨g1, g2⟩ := FpOk.through k'.inv un hS k'.fS
      obtain ⟨g3, g4⟩ := FpOk.through k'.inv un hoi k'.fI
      have sq2 := sqM_ext sm k'.sq
      obtain ⟨its2, rw2, p2⟩ := sq_get I'' sq2
      exact cont _ s5 ⟨H'', I'', k'.ext.trans sm, tb2, sq2, un.keep _ _ k'.lam k'.nf hff List.not_mem_nil, un.free _ _ k'.lam k'.nf List.not_mem_nil, g1, g3⟩ ⟨Zm.hIt_at stI fun o ho => by rw [hoi] at ho; cases ho; exact g4, its2, rw2, p2⟩ g2 ⟨tk, rfl⟩ fun _ _ z => z
    · intro i j ki kj s4 Q' E' _ vi vj q'
      exact hcmp i j ki kj s4 Q' E' vi vj q'
    · exact ⟨H2, I2.kept (t' := s2.toks) fun b o e => Heap.get?_push_of_some _ e, ExtN.refl _, T2, hsq, Heap.get?_push_of_some _ hf, hfn, fpS, fpI⟩
    · rintro v s5 ⟨y, hy, ry⟩ ⟨H', k'⟩
      exact ⟨y, H', k'.inv, ry, hend _ y H' rfl hy k'.ext k'.tab⟩
  obtain ⟨n, en⟩ : ∃ n, xs.length = n + 1 := ⟨xs.length - 1, by omega⟩
  cases w
  · refine call_min_walkK (core (fun i j => decide (kf i < kf j)) .Lt (fun i j ki kj s Q' E' vi vj q' => CmpOf.ints_lt (prog := X.prog) (w := X.w) (A := X.A.in1) (P := fun i v => ∃ t, v = .int (kf i) t) kf (fun i v h => h) i j ki kj s Q' E' vi vj q') fun j y H' hj hy e tt => qf j y H' ?_ hy e tt)
    rw [if_neg Bool.false_ne_true, hj, en]
    exact Cl.best_is kf n
  · refine call_max_walkK (core (fun i j => decide (kf i > kf j)) .Gt (fun i j ki kj s Q' E' vi vj q' => CmpOf.ints_gt (prog := X.prog) (w := X.w) (A := X.A.in1) (P := fun i v => ∃ t, v = .int (kf i) t) kf (fun i v h => h) i j ki kj s Q' E' vi vj q') fun j y H' hj hy e tt => qf j y H' ?_ hy e tt)
    rw [if_pos rfl, hj, en]
    exact most_is kf n
variable {c P : Addr} {k i : Nat} {p lpos kpos pos : Pos} {e body : Expr} {te tb : TE} {x : Str} {params : Arguments} {scope : Scope}
/-- max(e, key=lambda x: body); t: e is a tuple -/
theorem pe_maxlam (t : Bool) (hg : Gl X "max") (hm : X.mg "max" = none) (he : PE X e te) (hr : Room (k + 2) X.A) (hh : X.A.handled = none) (TB : TabB X.base X.mg c P) (hcode : X.env.code = .ref c) (hmT : (P, X.env.qual ++ "<lambda>") ∈ T)
    (hu : ∀ q ∈ T, q.1 = P → q.2 = X.env.qual ++ "<lambda>") (L : LamP X.env.scope scope x) (hN : X.N[i]? = some x) (nd : X.N.Nodup) (hdef : defaultsOf params X.env = ([], []))
    (hbind : ∀ (q : Str) (cl : List (Str × Addr)) (pm cv ctv v : Value), bindArgs (PySem.W.kla_fn "<lambda>" q params body scope cl pm cv ctv) ⟨[v], []⟩ = pure [(x, v)])
    (hbody : ∀ (A : Around) (outer : List Env) (s : Shared) (H : Hp) (f c' : Addr), Room k (A.deeper (lamEnv X scope s.heap.objs.size f c')) → PE (lamCx X A outer s H E0 scope f c').nox body tb)
    (hs : starEach [e] X.env = (false, eval e X.env) :: starEach [] X.env := by rfl) :
    PE X (.Call (.Name "max" p) [e] [⟨some "key", .Lambda params body scope lpos, kpos⟩] pos) (tBestLam X.K FirstMost t T i te tb) := by
  refine ⟨fun pins s σ H Q I h => ?_⟩
  refine wpAny_Call_Name_kw (ld_blt I hg hm (u := .builtin "max") (by decide +kernel) ?_)
  refine PyProof.Rows.callWith_kw ?_ (by rw [hs]; rfl) (by rw [hs]; rfl) (by rfl) (by rfl)
  rw [hs]
  show wpAny _ _ (spliced ((false, eval e X.env) :: backTo pos (starEach [] X.env))) _ _ s
  refine Calls.spliced_cons (thn (he.run pins s σ H _ I h) fun u s1 ⟨v, H1, I1, r1, a, xs, kf, ev, hl, hne, hT, q⟩ => Calls.spliced_nil ?_)
  subst ev
  obtain rfl : u = Value.ref a := r1
  show wpAny _ _ (evalAll ((do let v ← eval (.Lambda params body scope lpos) X.env; standAt pos; pure v) :: [])) _ _ s1
  refine wpAny_evalAll_cons (wpAny_bind (lam_make2 I1 TB hcode hmT hu hT hdef (L.has I1.ok) fun f c' pm ctv H2 s2 I2 eN T2 hf hfn hff hco => wpAny_bind (wpAny_standAt (wpAny_pure (wpAny_evalAll_nil ?_)))))
  obtain ⟨qk, qf⟩ := q H2 eN T2
  exact best_run (w := true) (kf := kf) I2 hr hh L hN nd (sqM_ext eN hl) hne T2 hf hfn hff hco hbind hbody qk fun j y H' h => qf j y H' h
/-- min(e, key=lambda x: body) -/
theorem pe_minlam (t : Bool) (hg : Gl X "min") (hm : X.mg "min" = none) (he : PE X e te) (hr : Room (k + 2) X.A) (hh : X.A.handled = none) (TB : TabB X.base X.mg c P) (hcode : X.env.code = .ref c) (hmT : (P, X.env.qual ++ "<lambda>") ∈ T)
    (hu : ∀ q ∈ T, q.1 = P → q.2 = X.env.qual ++ "<lambda>") (L : LamP X.env.scope scope x) (hN : X.N[i]? = some x) (nd : X.N.Nodup) (hdef : defaultsOf params X.env = ([], []))
    (hbind : ∀ (q : Str) (cl : List (Str × Addr)) (pm cv ctv v : Value), bindArgs (PySem.W.kla_fn "<lambda>" q params body scope cl pm cv ctv) ⟨[v], []⟩ = pure [(x, v)])
    (hbody : ∀ (A : Around) (outer : List Env) (s : Shared) (H : Hp) (f c' : Addr), Room k (A.deeper (lamEnv X scope s.heap.objs.size f c')) → PE (lamCx X A outer s H E0 scope f c').nox body tb)
    (hs : starEach [e] X.env = (false, eval e X.env) :: starEach [] X.env := by rfl) :
    PE X (.Call (.Name "min" p) [e] [⟨some "key", .Lambda params body scope lpos, kpos⟩] pos) (tBestLam X.K Cl.FirstLeast t T i te tb) := by
  refine ⟨fun pins s σ H Q I h => ?_⟩
  refine wpAny_Call_Name_kw (ld_blt I hg hm (u := .builtin "min") (by decide +kernel) ?_)
  refine PyProof.Rows.callWith_kw ?_ (by rw [hs]; rfl) (by rw [hs]; rfl) (by rfl) (by rfl)
  rw [hs]
  show wpAny _ _ (spliced ((false, eval e X.env) :: backTo pos (starEach [] X.env))) _ _ s
  refine Calls.spliced_cons (thn (he.run pins s σ H _ I h) fun u s1 ⟨v, H1, I1, r1, a, xs, kf, ev, hl, hne, hT, q⟩ => Calls.spliced_nil ?_)
  subst ev
  obtain rfl : u = Value.ref a := r1
  show wpAny _ _ (evalAll ((do let v ← eval (.Lambda params body scope lpos) X.env; standAt pos; pure v) :: [])) _ _ s1
  refine wpAny_evalAll_cons (wpAny_bind (lam_make2 I1 TB hcode hmT hu hT hdef (L.has I1.ok) fun f c' pm ctv H2 s2 I2 eN T2 hf hfn hff hco => wpAny_bind (wpAny_standAt (wpAny_pure (wpAny_evalAll_nil ?_)))))
  obtain ⟨qk, qf⟩ := q H2 eN T2
  exact best_run (w := false) (kf := kf) I2 hr hh L hN nd (sqM_ext eN hl) hne T2 hf hfn hff hco hbind hbody qk fun j y H' h => qf j y H' h
end
end Lm

set_option Elab.async false
set_option linter.all false
set_option maxRecDepth 100000
set_option maxHeartbeats 1000000
/-! own rules: == and != of two dicts whose values are ints, equal or not -/
namespace Dq
open PySem PySem.Spec PyProof.Rows L2
abbrev KVs : Type := List (Key × V)
def eqDB (ks ls : List (Key × V)) : Bool := decide (ks.length = ls.length) && ks.all fun p => decide (valV ls p.1 = some p.2)
def IntVs (ks : List (Key × V)) : Prop := ∀ p ∈ ks, ∃ i : Int, p.2 = .int i
theorem valV_mem {kvs : List (Key × V)} {k : Key} {v : V} (h : valV kvs k = some v) : (k, v) ∈ kvs := by
  unfold valV at h
  obtain ⟨p, hp, rfl⟩ := Option.map_eq_some_iff.mp h
  have e := List.find?_some hp
  rw [show k = p.1 from (of_decide_eq_true e).symm]
  exact List.mem_of_find?_eq_some hp
section
variable {A : Around} {s : Shared} {ls : List (Key × V)} {vb : List (Key × Value)}
theorem hits_ints (rb : KV ls vb) (hl : IntVs ls) : ∀ {ks : List (Key × V)} {va : List (Key × Value)}, KV ks va → IntVs ks → PySem.W.KeqHits A s vb va (ks.all fun p => decide (valV ls p.1 = some p.2)) := by
  intro ks va ra
  unfold KV at ra
  induction ra with
  | nil => exact fun _ => .nil
  | @cons p q ps qs h t ih =>
    intro hk
    obtain ⟨h1, h2⟩ := h
    have h1 : p.1 = q.1 := h1
    obtain ⟨i, ei⟩ := hk p List.mem_cons_self
    have tail := ih fun z hz => hk z (List.mem_cons_of_mem _ hz)
    have rr := rb.val p.1
    rw [List.all_cons]
    cases e : valV ls p.1 with
    | none =>
      rw [e] at rr
      have hn : valueAt vb q.1 = none := by
        rw [← h1]
        cases z : valueAt vb p.1 with
        | none => rfl
        | some y => rw [z] at rr; exact rr.elim
      rw [decide_eq_false (fun z => nomatch z), Bool.false_and]
      exact .miss (v := q.2) hn
    | some u =>
      obtain ⟨j, ej⟩ := hl _ (valV_mem e)
      have ej : u = .int j := ej
      subst ej
      rw [e] at rr
      obtain ⟨y, hy, ry⟩ := rr.some_of
      rw [h1] at hy
      obtain ⟨t1, rfl⟩ := ry
      rw [ei] at h2 ⊢
      obtain ⟨t2, e2⟩ := h2
      obtain ⟨k, v⟩ := q
      have e2 : v = .int i t2 := e2
      subst e2
      rw [show decide (some (V.int j) = some (V.int i)) = (i == j) from by
        rw [Bool.eq_iff_iff, decide_eq_true_eq, beq_iff_eq]
        exact ⟨fun z => by injection z with z; injection z with z; exact z.symm, fun z => by rw [z]⟩]
      exact .hit hy (SeqAt.EqAt.int_int _ _ _ _) tail
end
def rEqDI : R2 := fun x y H Q => ∃ (a b : Addr) (ks ls : List (Key × V)), x = .ref a ∧ y = .ref b ∧ H a = some (.dK ks) ∧ H b = some (.dK ls) ∧ IntVs ks ∧ IntVs ls ∧ Q (.bl (eqDB ks ls)) H
def rNeDI : R2 := fun x y H Q => ∃ (a b : Addr) (ks ls : List (Key × V)), x = .ref a ∧ y = .ref b ∧ H a = some (.dK ks) ∧ H b = some (.dK ls) ∧ IntVs ks ∧ IntVs ls ∧ Q (.bl (!eqDB ks ls)) H
section
variable {X : Cx}
theorem len_dec {α β : Type} (xs : List α) (ys : List β) : (xs.length == ys.length) = decide (xs.length = ys.length) := by
  rw [Bool.eq_iff_iff, beq_iff_eq, decide_eq_true_eq]
theorem op_eqDI (hu : X.A.units < cLine) : OpR X (compareOp .Eq) rEqDI := by
  rintro pins s σ H x y v u Q I rx ry ⟨a, b, ks, ls, rfl, rfl, ea, eb, ia, ib, q⟩
  cases rx
  cases ry
  obtain ⟨_, ya, va, ra, da⟩ := dk_of I.hok ea
  obtain ⟨_, yb, vb, rb, db⟩ := dk_of I.hok eb
  refine PySem.W.keq_eq (knd := mixKind X.prog X.w) ya yb da db hu (fun _ => hits_ints rb ib ra ia) (fin_bl I q ?_)
  unfold eqDB
  rw [len_dec, ra.length, rb.length]
theorem op_neDI (hu : X.A.units < cLine) : OpR X (compareOp .NotEq) rNeDI := by
  rintro pins s σ H x y v u Q I rx ry ⟨a, b, ks, ls, rfl, rfl, ea, eb, ia, ib, q⟩
  cases rx
  cases ry
  obtain ⟨_, ya, va, ra, da⟩ := dk_of I.hok ea
  obtain ⟨_, yb, vb, rb, db⟩ := dk_of I.hok eb
  refine PySem.W.keq_ne (knd := mixKind X.prog X.w) ya yb da db hu (fun _ => hits_ints rb ib ra ia) (fin_bl I q ?_)
  unfold eqDB
  rw [len_dec, ra.length, rb.length]
/-- the same, as a part of something -/
def DDI : Eqv := fun x y H => ∃ (a b : Addr) (ks ls : List (Key × V)), x = .ref a ∧ y = .ref b ∧ H a = some (.dK ks) ∧ H b = some (.dK ls) ∧ IntVs ks ∧ IntVs ls ∧ eqDB ks ls = true
theorem mon_dI : Mon DDI := fun x y H H' e ⟨a, b, ks, ls, h1, h2, h3, h4, r⟩ => ⟨a, b, ks, ls, h1, h2, e _ _ h3, e _ _ h4, r⟩
theorem rcG_dI : RcG X 1 DDI := by
  rintro A pins s σ H x y u v sb I rx ry ⟨a, b, ks, ls, rfl, rfl, ea, eb, ia, ib, q⟩
  cases rx
  cases ry
  obtain ⟨_, ya, va, ra, da⟩ := dk_of I.hok ea
  obtain ⟨_, yb, vb, rb, db⟩ := dk_of I.hok eb
  have key := PySem.W.keq_eq (prog := X.prog) (w := X.w) (A := A) (E := X.xe) (Q := fun r s' => r = .bool true ∧ ∃ H', Inv X pins σ H' s' ∧ Ext H H') (knd := mixKind X.prog X.w) ya yb da db sb.room.units0 (fun _ => hits_ints rb ib ra ia)
  refine key ⟨?_, H, I, Ext.rfl'⟩
  unfold eqDB at q
  rw [len_dec, ← ra.length, ← rb.length, q]
theorem eqG_dI : EqG X 1 DDI := rcG_dI.eqG fun _ _ _ d => let ⟨a, b, _, _, hx, hy, _⟩ := d; ⟨a, b, hx, hy⟩
theorem eqDB_same {ks : List (Key × V)} (nd : ∀ p ∈ ks, valV ks p.1 = some p.2) : eqDB ks ks = true := by
  unfold eqDB
  rw [decide_eq_true rfl, Bool.true_and]
  exact List.all_eq_true.mpr fun p hp => decide_eq_true (nd p hp)
end
end Dq

set_option Elab.async false
set_option linter.all false
set_option maxRecDepth 100000
set_option maxHeartbeats 1000000
/-! list(o.values()), a dict with int values -/
namespace L2
open PySem PySem.Spec PyProof.Rows
section
variable {X : Cx}
def tListVals (td : TE) : TE := fun σ H Q => td σ H fun x H1 => ∃ (a : Addr) (kvs : List (Key × V)), x = V.ref a ∧ H1 a = some (.dK kvs) ∧ ∀ p, H1 p = none → Q (.ref p) (upd H1 p (.lst (kvs.map (·.2))))
variable {o : Expr} {p pos apos mpos : Pos} {td : TE}
theorem pe_listVals (hc : X.calm = true) (hg : Gl X "list") (hm : X.mg "list" = none) (hd : PE X o td) (hbase : attributeBase o "values" X.env (eval o X.env) = eval o X.env := by rfl) (hline : (apos.endLine == mpos.line) = true := by rfl)
    (hse : starEach [Expr.Call (.Attribute o "values" apos) [] [] mpos] X.env = [(false, eval (Expr.Call (.Attribute o "values" apos) [] [] mpos) X.env)] := by rfl) :
    PE X (.Call (.Name "list" p) [.Call (.Attribute o "values" apos) [] [] mpos] [] pos) (tListVals td) := by
  refine ⟨fun pins s σ H Q I h => ?_⟩
  refine wpAny_Call_Name_kw (ld_blt I hg hm (u := .type "list") (by first | rfl | decide +kernel) ?_ (by first | decide +kernel | decide) (by first | decide +kernel | decide))
  rw [hse]
  refine PySem.callWith_type1 (wpAny_Call_method0_late hbase hline (thn (hd.run pins s σ H _ I h) fun v s1 ⟨x, H1, I1, r1, a, kvs, ex, ha, q⟩ => ?_))
  subst ex
  obtain rfl : v = Value.ref a := r1
  obtain ⟨z, hsys, vs, rel, dof⟩ := dk_of I1.hok ha
  obtain ⟨ep, dat⟩ := dof.dictAt
  have dat' := dat
  obtain ⟨ob, es, ho, ex, hdat, hko, hpr, hnd⟩ := dat'
  refine ⟨"dict", "dict.values", F.plainAttrs_dict, F.slot_dict_values, F.type_dict_values, ⟨ob, ho, ex.1⟩, fun b e => ?_, Calls.callWith_builtin rfl (PySem.evalArgs_none ?_)⟩
  · cases e
    exact ⟨ob, ho, ex.2.1⟩
  refine call_meetsIn F.slot_dict_values ⟨ob, ho, ex.1⟩ F.entry_dict_values (F.args_dict_values_1 _) (meets_dict_values (mixKind X.prog X.w) a hsys) ⟨⟨vs, dof⟩, ?_⟩
  have k1 : ∀ b u, s1.heap.get? b = some u → (s1.heap.push { cls := .type "dict_values", data := .fields #[.ref a] }).get? b = some u := fun b u e => Heap.get?_push_of_some _ e
  have I2 : Inv X pins σ H1 { s1 with heap := s1.heap.push { cls := .type "dict_values", data := .fields #[.ref a] } } := I1.kept (t' := s1.toks) k1
  have hl : kvs.length = vs.length := rel.length
  refine PySem.W.kdl_call (PySem.W.kdl_values (knd := mixKind X.prog X.w) (kvs := vs) (ep := ep)) (I1.ok.hd hc) ⟨⟨_, Heap.get?_push_size _ rfl, rfl, rfl⟩, dat.keep k1⟩ (by rw [← hl]; exact z) fun h' tk acc c' hk hD hacc => ?_
  have I3 := I2.laid (a := (s1.heap.push { cls := .type "dict_values", data := .fields #[.ref a] }).objs.size) (o := .lst (kvs.map (·.2))) (t' := tk) hk (Nat.le_refl _) ?_
  · exact ⟨.ref _, _, I3, rfl, q _ (I2.hok.fresh (Nat.le_refl _))⟩
  · refine ⟨by rw [List.length_map]; exact z, acc.toList, c', ?_, by rw [Array.toArray_toList]; exact hD⟩
    refine vals_of_at (by
      have e : acc.toList.length = acc.size := Array.length_toList
      rw [List.length_map, e, hacc.1, hl]) fun j x w h1 h2 => ?_
    obtain ⟨k, hi⟩ := hacc.2 j w (by rw [← Array.getElem?_toList]; exact h2)
    obtain ⟨y, h3, h4⟩ := KV.at' rel hi
    rw [List.getElem?_map, h3] at h1
    cases h1
    exact h4
end
end L2

set_option Elab.async false
set_option linter.all false
set_option maxRecDepth 100000
set_option maxHeartbeats 4000000
/-! xs[i] += e, xs a list, i from 0 on: the read -/
namespace Ga
open PySem PySem.Spec PyProof.Rows PySem.W L2
theorem get_list {X : Cx} : PGet X (fun x y H Q => ∃ p xs i v, x = .ref p ∧ y = .int i ∧ 0 ≤ i ∧ SqL X.K H p xs ∧ xs[i.toNat]? = some v ∧ Q v H) := by
  intro pins s σ H o i ov iv Q I ro ri h
  obtain ⟨p, xs, i, z, rfl, rfl, h0, hq, h2, q⟩ := h
  cases ro
  obtain ⟨t, rfl⟩ := ri
  obtain ⟨its, r, pl, hz⟩ := I.list hq
  obtain ⟨w, ew, rw'⟩ := r.get h2
  have hl := r.length
  have hn := line63
  have hlt : i.toNat < xs.length := by
    rcases Nat.lt_or_ge i.toNat xs.length with g | g
    · exact g
    · rw [List.getElem?_eq_none g] at h2; cases h2
  exact wpAny_getItem_list pl.isList h0 (by omega) (by simpa using ew) ⟨z, H, I, rw', q⟩
end Ga
namespace Ga
open PySem PySem.Spec PyProof.Rows PySem.W L2
/-- x *= e, ints, one of them small -/
theorem ip_mul {X : Cx} : PIp X .Mult (fun x y H Q => ∃ i j, x = .int i ∧ y = .int j ∧ CMul i j ∧ Q (.int (i * j)) H) := by
  intro pins s σ H x y v u Q I r1 r2 h
  obtain ⟨i, j, e1, e2, hc, q⟩ := h
  subst e1; subst e2
  obtain ⟨t, rfl⟩ := r1
  obtain ⟨t', rfl⟩ := r2
  exact imul_int ⟨.int _, H, I.tok _, ⟨_, rfl⟩, q⟩ hc.ok
end Ga

set_option Elab.async false
set_option linter.all false
set_option maxRecDepth 100000
set_option maxHeartbeats 2000000
/-! sorted(d), d a dict with whole numbers as keys -/
namespace Sd
open PySem PySem.Spec PyProof.Rows L2
section
variable {prog : Program} {w : World} {A : Around} {E : Value → Shared → Prop} {s : Shared} {T : String} {r d : Addr} {n : Nat} {P : Nat → Value → Prop} {OK : Heap → Prop}
/-- what a source of values gives, gathered -/
theorem gather_src {Q : List Value → Shared → Prop} (K : PySem.W.KdlSrc prog w T r d n P OK) (hh : A.handled = none) (hok : OK s.heap) (hn : n ≤ sizeLine)
    (h : ∀ h' tk (acc : Array Value) c, (∀ b o, s.heap.get? b = some o → h'.get? b = some o) → h'.get? s.heap.objs.size = some { cls := .type "list", dict := none, data := .seq acc c, slots := #[] } → PySem.ItemsOf P acc n → Q acc.toList { s with heap := h', toks := tk }) :
    wpAny (model prog w) A (collect (.ref r)) Q E s := by
  unfold collect
  refine wpAny_bind (wpAny_runValue (codeAny_builtin entry_proto_collect' ?_))
  show wpAny _ _ (do again (.builtin "list.__iadd__" ⟨[← newList [], .ref r], []⟩)) _ _ s
  refine wpAny_bind (wpAny_newList (wpAny_pure ⟨Code.quiet_builtin _ (by decide +kernel), codeAny_builtin entry_list_iadd' ?_⟩))
  show wpAny _ _ (Builtin.List.listExtendWith (.ref s.heap.objs.size) (.ref r) (.ref s.heap.objs.size)) _ _ { s with heap := s.heap.push (seqObj "list" #[] 0) }
  have hlt := K.there _ hok
  have hS : (s.heap.push (seqObj "list" #[] 0)).get? s.heap.objs.size = some { cls := .type "list", data := .seq #[] 0 } := Heap.get?_push_size _ rfl
  have hok2 : OK (s.heap.push (seqObj "list" #[] 0)) := K.keep _ _ hok fun b _ o e => Heap.get?_push_of_some _ e
  rw [Around.under_plainId (id := "list.__iadd__") (by decide +kernel) _]
  refine PySem.W.kdl_extend (R := fun r s' => match r with
    | .ok (.ret v) => wpAny (model prog w) A (match v with
        | .ref a => do
          let o ← load a
          match o.data with
          | .seq xs _ => pure xs.toList
          | _ => unsupported "internal:collect"
        | _ => unsupported "internal:collect") Q E s'
    | .ok _ => False
    | .error e => E e s') (s := { s with heap := s.heap.push (seqObj "list" #[] 0) }) K hh hok2 s.heap.objs.size (Nat.ne_of_gt hlt.1) (Nat.ne_of_gt hlt.2) (.ref s.heap.objs.size) 0 hS (fun h' tk acc c hk hS' hacc => ?_) hn
  refine wpAny_bind (wpAny_load hS' ?_)
  exact wpAny_pure (h h' tk acc c (fun b o e => hk b o (Nat.ne_of_lt (Heap.lt_size e)) (Heap.get?_push_of_some _ e)) hS' hacc)
end
def rSortedD : List V → Hp → VK → Prop := fun vs H Q => ∃ (a : Addr) (kvs : List (Key × V)) (ns : List Int), vs = [V.ref a] ∧ H a = some (.dK kvs) ∧ kvs.map (·.1) = ns.map Sum.inl ∧
  ∀ (ns' : List Int) (p : Addr), ns'.Perm ns → ns'.Pairwise (· ≤ ·) → H p = none → Q (.ref p) (upd H p (.lst (ns'.map V.int)))
theorem cr_sortedD {X : Cx} (hc : X.calm = true) : CallR X (.builtin "sorted") rSortedD := by
  intro pins s σ H vs us Q I r h
  obtain ⟨a, kvs, ns, rfl, ha, hks, q⟩ := h
  rw [Vals.ref1 r]
  obtain ⟨z, lo, vs, rk, hd⟩ := (show ObjOk X.prog X.w H s.heap a (.dK kvs) from I.hok a _ ha)
  obtain ⟨ep, hat⟩ := hd.dictAt
  have hl : kvs.length = vs.length := Paired.length rk
  have hkl : ns.length = kvs.length := by
    have := congrArg List.length hks
    rw [List.length_map, List.length_map] at this
    exact this.symm
  refine Calls.call_function_entry kind_sorted plain_sorted entry_sorted (args_sorted1 _) ?_
  unfold Builtin.«sorted»
  refine wpAny_bind (m := checkCount "sorted" 1 1 _) (wpAny_pure ?_)
  refine wpAny_bind (gather_src (PySem.W.kdl_dict (knd := mixKind X.prog X.w) (kvs := vs) (ep := ep) lo) (by exact I.ok.hd hc) hat (by rw [← hl]; exact z) fun h' tk acc c hk hS hacc => ?_)
  have el : acc.toList.length = acc.size := by simp
  have rv : Vals (ns.map V.int) acc.toList := by
    refine vals_of_at (by rw [List.length_map, el, hacc.1, ← hl, hkl]) fun j x w h1 h2 => ?_
    obtain ⟨k, y, hky, hi⟩ := hacc.2 j w (by rw [← Array.getElem?_toList]; exact h2)
    have e1 : (kvs.map (·.1))[j]? = some k := by
      rw [KV.keys rk, List.getElem?_map, hky] <;> rfl
    rw [hks, List.getElem?_map] at e1
    rw [List.getElem?_map] at h1
    cases e : ns[j]? with
    | none => rw [e] at h1; cases h1
    | some n =>
      rw [e] at h1 e1
      have e1 : Sum.inl n = k := Option.some.inj e1
      have h1 : V.int n = x := Option.some.inj h1
      rw [← h1]
      have := keyIs_rel hi
      rw [← e1] at this
      exact this
  have hi := rv.ints
  have hzi : acc.toList.length ≤ sizeLine := by rw [el, hacc.1, ← hl]; exact z
  have hlt : s.heap.objs.size < h'.objs.size := Heap.lt_size hS
  refine wpAny_bind (wpAny_newList ?_ hzi)
  have hoL : (h'.push (seqObj "list" acc.toList.toArray 0)).get? h'.objs.size = some (seqObj "list" acc.toList.toArray 0) := Heap.get?_push_size _ rfl
  refine wpAny_bind (wpAny_holding (wpAny_call_entry slot_list_sort ⟨_, hoL, rfl⟩ entry_list_sort (SrtO.list_sort_ord SrtO.swo_int hoL hzi (fun h2 => SrtO.ints_sortable hi h2) fun out h1 h2 => ⟨_, rfl, ?_⟩) (args_list_sort _)))
  refine wpAny_pure ⟨_, rfl, ?_⟩
  obtain ⟨k1, k2, k3⟩ := SrtO.ints_out hi h1 h2
  have hlen : ((out.map SrtO.iv).map V.int).length ≤ sizeLine := by
    rw [List.length_map, k2.length_eq, hkl]
    exact z
  obtain ⟨e0, he0⟩ := sortedHeap_at (out := out.toArray) hoL
  refine ⟨.ref _, upd H h'.objs.size (.lst ((out.map SrtO.iv).map V.int)), I.laid (t' := tk) (fun b o e => ?_) (Nat.le_of_lt hlt) ⟨hlen, out, e0, vals_of_ints k1, he0⟩, rfl, q _ _ k2 k3 (I.hok.fresh (Nat.le_of_lt hlt))⟩
  have hb := Heap.lt_size (hk b o e)
  refine (sortedHeap_old (Nat.ne_of_lt hb) (by rw [size_push']; exact Nat.lt_succ_of_lt hb)).trans ?_
  exact Heap.get?_push_of_some _ (hk b o e)
end Sd

set_option Elab.async false
set_option linter.all false
set_option maxRecDepth 100000
set_option maxHeartbeats 2000000
/-! own rule: a dict comprehension of two clauses. One lemma speaks of a clause's turn (turnK), whichever clause it is; into_blk: the block is entered, and left -/
namespace L2.D2
open PySem PySem.Spec PyProof.Rows L2
/-- a clause's turn; k: what comes behind its tests -/
def turnK (at_ : Pos) (tg : Expr) (cs : List Expr) (it : Value) (env : Env) (k : Bool → Sem Fin) : Sem Fin := do
  standAt at_
  match ← pyNext it with
  | none => pure (.done .next)
  | some v =>
    letOwnedTupleGo tg it v
    assign tg env v
    let go ← forIn cs true fun c r => if r = true then do let ok ← isTrue c env (eval c env); pure (ForInStep.yield ok) else pure (ForInStep.yield r)
    k go
section
variable {kx vx ta ia tb ib : Expr} {ca cb : List Expr} {sc : Scope} {pos : Pos}
theorem turn_a (it : Value) (D : Addr) (env : Env) : compTurn (.DictComp kx vx [⟨ta, ia, ca, 0⟩, ⟨tb, ib, cb, 0⟩] sc pos) 0 it (.ref D) env =
    turnK ia.pos ta ca it env fun go => if go = true then (do
        let src ← eval ib env
        standAt ib.pos
        let src ← foldedSetIterable ib env src
        let _ ← runOwn (.compStart (.DictComp kx vx [⟨ta, ia, ca, 0⟩, ⟨tb, ib, cb, 0⟩] sc pos) 1 (← holding [src] (pyIter src)) (.ref D) env) env
        again (.compLoop (.DictComp kx vx [⟨ta, ia, ca, 0⟩, ⟨tb, ib, cb, 0⟩] sc pos) 0 it (.ref D) env))
      else again (.compLoop (.DictComp kx vx [⟨ta, ia, ca, 0⟩, ⟨tb, ib, cb, 0⟩] sc pos) 0 it (.ref D) env) := by rfl
theorem turn_b (it : Value) (D : Addr) (env : Env) : compTurn (.DictComp kx vx [⟨ta, ia, ca, 0⟩, ⟨tb, ib, cb, 0⟩] sc pos) 1 it (.ref D) env =
    turnK ib.pos tb cb it env fun go => if go = true then (do
        (do
          let key ← eval kx env
          let val ← holding [key] (eval vx env)
          standAt { kx.pos with endLine := vx.pos.endLine, endCol := vx.pos.endCol }
          holding [key, val] (dictSet D key val))
        again (.compLoop (.DictComp kx vx [⟨ta, ia, ca, 0⟩, ⟨tb, ib, cb, 0⟩] sc pos) 1 it (.ref D) env))
      else again (.compLoop (.DictComp kx vx [⟨ta, ia, ca, 0⟩, ⟨tb, ib, cb, 0⟩] sc pos) 1 it (.ref D) env) := by rfl
end
section
variable {X : Cx}
/-- a walk stands at turn i, and its own objects are untracked -/
structure Walking (X : Cx) (pins : List (Addr × Obj)) (σ : St) (fp : List Addr) (tn : Nat → Heap → Prop) (i : Nat) (H : Hp) (s : Shared) : Prop where
  inv : Inv X pins σ H s
  st : tn i s.heap
  nil : ∀ b ∈ fp, H b = none
variable {pins : List (Addr × Obj)} {σ : St} {H : Hp} {s : Shared} {J : It} {fp : List Addr} {it : Addr} {tn : Nat → Heap → Prop} {tg : Expr} {cs : List Expr} {g : TG} {tt : TT} {i : Nat}
theorem Walking.weak {σ' : St} (w : Walking X pins σ fp tn i H s) (hl : σ'.length = σ.length) (hw : ∀ (j : Nat) v, σ'[j]? = some (some v) → σ[j]? = some (some v)) : Walking X pins σ' fp tn i H s := ⟨w.inv.weak hl hw, w.st, w.nil⟩
/-- behind a turn's own work, its objects pinned at h -/
theorem back (T : Turn X.prog X.w X.K tg J fp it tn) {h : Heap} (st : tn i h) (I : Inv X (pins ++ pinsAt fp h) σ H s) : Walking X pins σ fp tn i H s := by
  have pin : ∀ b ∈ fp, ∀ o, h.get? b = some o → s.heap.get? b = some o ∧ H b = none := fun b hb o e => by
    have q := I.pin (b, o) (List.mem_append_right _ (List.mem_append_right _ (mem_pinsAt hb e)))
    exact ⟨q.1, q.2.1⟩
  refine ⟨I.unpinned, T.keep _ _ _ st fun b hb o e => (pin b hb o e).1, fun b hb => ?_⟩
  obtain ⟨o, e, _⟩ := T.obj _ _ st b hb
  exact (pin b hb o e).2
/-- a turn that finds no more -/
theorem turn_stop (hc : X.calm = true) (T : Turn X.prog X.w X.K tg J fp it tn) (hf : ∀ H', (∀ b ∈ fp, H' b = none) → ∀ b ∈ fp, FpOk X pins H' b) (wk : Walking X pins σ fp tn i H s) (hs : J.stop i H) {p : Pos} {k : Bool → Sem Fin} {Q : Fin → Shared → Prop} {E : Value → Shared → Prop}
    (hq : ∀ s', Inv X pins σ H s' → Q (.done .next) s') : wpAny (model X.prog X.w) X.A (turnK p tg cs (.ref it) X.env k) Q E s := by
  unfold turnK
  refine wpAny_bind (wpAny_standAt (wpAny_bind (thnF (T.done X rfl rfl rfl hc i pins s σ H (fun _ _ => False) wk.inv (hf H wk.nil) wk.st hs) fun r s' z => ?_)))
  obtain ⟨e, I⟩ := z
  rw [e]
  exact wpAny_pure (hq s' I)
/-- a turn that goes on: what is wanted of k -/
theorem turn_go (hc : X.calm = true) (hx : X.xe = fun _ _ => False) (T : Turn X.prog X.w X.K tg J fp it tn) (pg : PG X tg g) (pt : PTs X cs tt) (hf : ∀ H', (∀ b ∈ fp, H' b = none) → ∀ b ∈ fp, FpOk X pins H' b) (wk : Walking X pins σ fp tn i H s) (go : J.go i H)
    {Pm : St → Prop} {B : St → Bool → Hp → Prop} (step : ∀ x H', J.yld i H x H' → g x σ H' fun σ2 H2 => Pm σ2 ∧ tt σ2 H2 (B σ2)) {p : Pos} {k : Bool → Sem Fin} {Q : Fin → Shared → Prop} {E : Value → Shared → Prop}
    (hk : ∀ (pl : List (Addr × Obj)), (∀ σ' H' s', Inv X (pins ++ pl) σ' H' s' → Walking X pins σ' fp tn (i + 1) H' s') → ∀ b σ2 H3 s3, Inv X (pins ++ pl) σ2 H3 s3 → Pm σ2 → B σ2 b H3 → wpAny (model X.prog X.w) X.A (k b) Q E s3) :
    wpAny (model X.prog X.w) X.A (turnK p tg cs (.ref it) X.env k) Q E s := by
  unfold turnK
  refine wpAny_bind (wpAny_standAt (wpAny_bind (thnF (T.item X rfl rfl rfl hc i pins s σ H (fun _ _ => False) wk.inv (hf H wk.nil) wk.st go) fun r s1 z => ?_)))
  obtain ⟨u, e, z⟩ := z
  rw [e]
  refine wpAny_bind (thnF z fun _ s2 z => ?_)
  obtain ⟨x, H2, I2, rx, y, st2, n2⟩ := z
  have a := pg.run _ s2 σ H2 x u _ (I2.pinned (hf H2 n2) (T.obj _ _ st2)) rx (step x H2 y)
  rw [hx] at a
  refine wpAny_bind (thnF a fun _ s3 z => ?_)
  obtain ⟨σ3, H3, I3, h3, q3⟩ := z
  have b := pt.run _ s3 σ3 H3 _ I3 q3
  rw [hx] at b
  refine wpAny_bind (thnF b fun more s4 z => ?_)
  obtain ⟨H4, I4, q4⟩ := z
  exact hk (pinsAt fp s2.heap) (fun σ' H' s' I' => back T st2 I') more σ3 H4 s4 I4 h3 q4
end
section
variable {X : Cx} {kx vx ta ia tb ib : Expr} {ca cb : List Expr} {sc : Scope} {pos : Pos} {pins : List (Addr × Obj)} {σ : St} {H : Hp} {s : Shared} {J : It} {fp : List Addr} {it D : Addr} {tn : Nat → Heap → Prop} {ga gb : TG} {qa qb : TT} {wb : TI} {tk tv : TE} {va vb : List Nat} {R : Result → Shared → Prop}
/-- what a turn of the second clause is to answer -/
def StepB (gb : TG) (qb : TT) (tk tv : TE) (vb : List Nat) (D : Addr) (J : It) (σ : St) (Nx : Hp → Prop) (W : Nat → Nat → Hp → Prop) : Prop := ∀ j k H, W j k H →
  (J.stop j H ∧ Nx H) ∨ (J.go j H ∧ ∃ Ny : Hp → Prop, (∀ H', Ny H' → ∃ k', k' < k ∧ W (j + 1) k' H') ∧ ∀ x H', J.yld j H x H' → gb x (wipe σ vb) H' fun σ2 H2 => wipe σ2 vb = wipe σ vb ∧ qb σ2 H2 fun b H3 =>
    if b = true then tk σ2 H3 fun y H4 => tv σ2 H4 fun z H5 => ∃ kvs key, y = kV key ∧ H5 D = some (.dK kvs) ∧ kvs.length < sizeLine ∧ Ny (upd H5 D (.dK (putK kvs key z))) else Ny H3)
/-- what a turn of the first clause is to answer -/
def StepA (ga : TG) (qa : TT) (wb : TI) (gb : TG) (qb : TT) (tk tv : TE) (va vb : List Nat) (D : Addr) (J : It) (σ : St) (Nx : Hp → Prop) (W : Nat → Nat → Hp → Prop) : Prop := ∀ i m H, W i m H →
  (J.stop i H ∧ Nx H) ∨ (J.go i H ∧ ∃ Ny : Hp → Prop, (∀ H', Ny H' → ∃ m', m' < m ∧ W (i + 1) m' H') ∧ ∀ x H', J.yld i H x H' → ga x (wipe σ va) H' fun σ2 H2 => wipe σ2 va = wipe σ va ∧ qa σ2 H2 fun b H3 =>
    if b = true then wb σ2 H3 fun Jb H4 => ∃ Wb : Nat → Nat → Hp → Prop, (∃ k, Wb 0 k H4) ∧ StepB gb qb tk tv vb D Jb σ2 Ny Wb else Ny H3)
theorem loop_b (hc : X.calm = true) (hx : X.xe = fun _ _ => False) (T : Turn X.prog X.w X.K tb J fp it tn) (pg : PG X tb gb) (pt : PTs X cb qb) (pk : PE X kx tk) (pv : PE X vx tv) (hf : ∀ H', (∀ b ∈ fp, H' b = none) → ∀ b ∈ fp, FpOk X pins H' b)
    {Nx : Hp → Prop} {W : Nat → Nat → Hp → Prop} (turn : StepB gb qb tk tv vb D J σ Nx W) {m : Nat} (wk : Walking X pins (wipe σ vb) fp tn 0 H s) (w : W 0 m H) (hR : ∀ H' s', Inv X pins (wipe σ vb) H' s' → Nx H' → R (.ok .next) s') :
    codeAny (model X.prog X.w) X.A (.compLoop (.DictComp kx vx [⟨ta, ia, ca, 0⟩, ⟨tb, ib, cb, 0⟩] sc pos) 1 (.ref it) (.ref D) X.env) R s := by
  refine codeAny_loop rfl (fun n s' => ∃ i H', Walking X pins (wipe σ vb) fp tn i H' s' ∧ W i n H') (fun n s' z => ?_) m ⟨0, H, wk, w⟩
  obtain ⟨i, H', wk', w'⟩ := z
  show wpAny _ X.A ((compTurn (.DictComp kx vx [⟨ta, ia, ca, 0⟩, ⟨tb, ib, cb, 0⟩] sc pos) 1 (.ref it) (.ref D) X.env).onRaise (fun x => do noteFrame x X.env; theTreesLotGoes x)) _ _ s'
  refine wpAny_noted ?_
  rw [turn_b]
  rcases turn i n H' w' with ⟨stop, nx⟩ | ⟨go, Ny, hNy, step⟩
  · exact turn_stop hc T hf wk' stop fun s2 I2 => hR H' s2 I2 nx
  · refine turn_go hc hx T pg pt hf wk' go step fun pl bk b σ2 H3 s3 I3 hP q => ?_
    have fin : ∀ H4 s4, Inv X (pins ++ pl) σ2 H4 s4 → Ny H4 → ∃ m', m' < n ∧ ∃ i H, Walking X pins (wipe σ vb) fp tn i H s4 ∧ W i m' H := fun H4 s4 I4 n1 => by
      obtain ⟨m', hm, w2⟩ := hNy H4 n1
      exact ⟨m', hm, i + 1, H4, (bk σ2 H4 s4 I4).weak (by rw [← hP, wipe_length]) (fun j v e => by rw [← hP] at e; exact (wipe_some e).1), w2⟩
    cases b with
    | false => exact wpAny_pure ⟨rfl, fin H3 s3 I3 q⟩
    | true =>
      have a := pk.run _ s3 σ2 H3 _ I3 q
      rw [hx] at a
      refine wpAny_bind (wpAny_bind (thnF a fun key s4 z => ?_))
      obtain ⟨yk, H4, I4, rk, q4⟩ := z
      have a := pv.run _ s4 σ2 H4 _ I4 q4
      rw [hx] at a
      refine wpAny_bind (wpAny_holding (thnF a fun val s5 z => ?_))
      obtain ⟨yv, H5, I5, rv, kvs, k, ek, hD5, hz, n1⟩ := z
      subst ek
      exact wpAny_bind (wpAny_standAt (wpAny_holding (d_dictSet (X := X) I5 hD5 hz rk rv fun s6 I6 => wpAny_pure ⟨rfl, fin _ s6 I6 n1⟩)))
/-- the second clause begins -/
theorem start_b {A : Around} {itv acc : Value} {env : Env} (h0 : codeAny (model X.prog X.w) A (.compLoop (.DictComp kx vx [⟨ta, ia, ca, 0⟩, ⟨tb, ib, cb, 0⟩] sc pos) 1 itv acc env) R s)
    (h1 : ∀ (Q : Value → Shared → Prop) (E : Value → Shared → Prop), Q itv s → wpAny (model X.prog X.w) A (pyIter itv) Q E s) :
    codeAny (model X.prog X.w) A (.compStart (.DictComp kx vx [⟨ta, ia, ca, 0⟩, ⟨tb, ib, cb, 0⟩] sc pos) 1 itv acc env) R s := by
  refine codeAny_of_tree ?_
  show wpAny _ _ ((compStart (.DictComp kx vx [⟨ta, ia, ca, 0⟩, ⟨tb, ib, cb, 0⟩] sc pos) 1 itv acc env).onRaise (fun x => do noteFrame x env; standAt theWindowsPlace)) _ _ s
  refine wpAny_notedAt ?_
  unfold compStart
  show wpAny _ _ (ask >>= _) _ _ s
  refine wpAny_bind (wpAny_askSetting (wpAny_ite ?_))
  split
  · exact wpAny_bind (wpAny_pure (wpAny_pure (And.intro rfl h0)))
  · exact wpAny_bind (wpAny_rule (wpAny_bind (wpAny_standAt (wpAny_bind (h1 _ _ (wpAny_pure (And.intro rfl h0)))))))
theorem loop_a (hc : X.calm = true) (hx : X.xe = fun _ _ => False) (T : Turn X.prog X.w X.K ta J fp it tn) (pg : PG X ta ga) (pt : PTs X ca qa) (pi : PI X tb ib wb) (pg2 : PG X tb gb) (pt2 : PTs X cb qb) (pk : PE X kx tk) (pv : PE X vx tv)
    (hf : ∀ H', (∀ b ∈ fp, H' b = none) → ∀ b ∈ fp, FpOk X pins H' b) (hs : ∀ x, foldedSetIterable ib X.env x = pure x) (hv : ∀ i ∈ vb, i ∈ va)
    {Nx : Hp → Prop} {W : Nat → Nat → Hp → Prop} (turn : StepA ga qa wb gb qb tk tv va vb D J σ Nx W) {m : Nat} (wk : Walking X pins (wipe σ va) fp tn 0 H s) (w : W 0 m H) (hR : ∀ H' s', Inv X pins (wipe σ va) H' s' → Nx H' → R (.ok .next) s') :
    codeAny (model X.prog X.w) X.A (.compLoop (.DictComp kx vx [⟨ta, ia, ca, 0⟩, ⟨tb, ib, cb, 0⟩] sc pos) 0 (.ref it) (.ref D) X.env) R s := by
  refine codeAny_loop rfl (fun n s' => ∃ i H', Walking X pins (wipe σ va) fp tn i H' s' ∧ W i n H') (fun n s' z => ?_) m ⟨0, H, wk, w⟩
  obtain ⟨i, H', wk', w'⟩ := z
  show wpAny _ X.A ((compTurn (.DictComp kx vx [⟨ta, ia, ca, 0⟩, ⟨tb, ib, cb, 0⟩] sc pos) 0 (.ref it) (.ref D) X.env).onRaise (fun x => do noteFrame x X.env; theTreesLotGoes x)) _ _ s'
  refine wpAny_noted ?_
  rw [turn_a]
  rcases turn i n H' w' with ⟨stop, nx⟩ | ⟨go, Ny, hNy, step⟩
  · exact turn_stop hc T hf wk' stop fun s2 I2 => hR H' s2 I2 nx
  · refine turn_go hc hx T pg pt hf wk' go step fun pl bk b σ2 H3 s3 I3 hP q => ?_
    have hlen : (wipe σ va).length = σ2.length := by rw [← hP, wipe_length]
    have fin : ∀ σ' H4 s4, Inv X (pins ++ pl) σ' H4 s4 → σ'.length = σ2.length → (∀ (j : Nat) v, (wipe σ va)[j]? = some (some v) → σ'[j]? = some (some v)) → Ny H4 → ∃ m', m' < n ∧ ∃ i H, Walking X pins (wipe σ va) fp tn i H s4 ∧ W i m' H := fun σ' H4 s4 I4 hl hw n1 => by
      obtain ⟨m', hm, w2⟩ := hNy H4 n1
      exact ⟨m', hm, i + 1, H4, (bk σ' H4 s4 I4).weak (hlen.trans hl.symm) hw, w2⟩
    cases b with
    | false => exact wpAny_pure ⟨rfl, fin σ2 H3 s3 I3 rfl (fun j v e => by rw [← hP] at e; exact (wipe_some e).1) q⟩
    | true =>
      have a := pi.run _ s3 σ2 H3 _ I3 q
      rw [hx] at a
      refine wpAny_bind (thnF a fun src s4 a => ?_)
      refine wpAny_bind (wpAny_standAt (wpAny_bind (wpAny_of_eq (hs src) (wpAny_bind (wpAny_holding (thnF a fun itv s5 z => ?_))))))
      obtain ⟨ib2, fq, tm, Jb, H5, e, I5, Tb, st5, f5, Wb, ⟨mb, wb0⟩, turnb⟩ := z
      subst e
      refine wpAny_bind (wpAny_runOwn ?_)
      rw [Around.mark_none]
      refine start_b (loop_b (σ := σ2) hc hx Tb pg2 pt2 pk pv (fun H6 hn b hb => ⟨hn b hb, (f5 b hb).2⟩) turnb ⟨I5.weak (wipe_length _ _) (fun j v e => (wipe_some e).1), st5, fun b hb => (f5 b hb).1⟩ wb0 fun H6 s6 I6 n6 => ?_) (fun Q E hq => Tb.self X.A 0 s5 Q E st5 hq)
      exact wpAny_pure ⟨rfl, fin _ H6 s6 I6 (wipe_length _ _) (fun j v e => by
        rw [← hP] at e
        obtain ⟨e1, e2⟩ := wipe_some e
        rw [wipe_out fun z => e2 (hv j z)]
        exact e1) n6⟩
/-- {k: v for a in A if .. for b in B if ..} -/
def tDc2 (wa : TI) (ga : TG) (qa : TT) (wb : TI) (gb : TG) (qb : TT) (tk tv : TE) (va vb : List Nat) : TE := fun σ H Q => wa σ H fun J H1 => ∀ D, H1 D = none → ∃ W : Nat → Nat → Hp → Prop, (∃ m, W 0 m (upd H1 D (.dK []))) ∧ StepA ga qa wb gb qb tk tv va vb D J σ (Q (.ref D)) W
/-- a comprehension's block is entered with a new dict, and left -/
theorem into_blk {scope : Scope} {own : List (Str × Nat)} {tg : Expr} (hN : X.N.Nodup) (ok : BlkOk X.N X.env.scope scope own) (I : Inv X pins σ H s) (T : Turn X.prog X.w X.K tg J fp it tn) (st : tn 0 s.heap) (hf : ∀ b ∈ fp, FpOk X pins H b) {Q : Value → Env → Shared → Prop} {E : Value → Shared → Prop}
    (h : ∀ (D C : Addr) (cl : List (Str × Addr)) (s3 s4 : Shared), H D = none → Walking (X.blk s3 (upd H D (.dK [])) scope (compEnvC scope cl C X.env) fp) [] (wipe σ (own.map (·.2))) fp tn 0 (upd H D (.dK [])) s4 →
      (∀ H', (∀ b ∈ fp, H' b = none) → ∀ b ∈ fp, FpOk (X.blk s3 (upd H D (.dK [])) scope (compEnvC scope cl C X.env) fp) [] H' b) →
      (∀ σ' H' s', Inv (X.blk s3 (upd H D (.dK [])) scope (compEnvC scope cl C X.env) fp) [] σ' H' s' → Inv X pins σ H' s' ∧ (∃ m, s'.heap.Ns C m) ∧ FpOk X pins H' C) → Q (.ref D) (compEnvC scope cl C X.env) s4) :
    wpAny (model X.prog X.w) X.A newDict (fun acc s3 => wpAny (model X.prog X.w) X.A (newFunctionEnv scope X.env.globals (cloFrom X.env.cells scope.names []) [] X.env.qual none .none (some X.env)) (fun cenv s4 => Q acc { cenv with scope := relabel scope X.env } s4) E s3) E s := by
  refine wpAny_newObj_type (newEnv_comp ?_)
  have hDn : H s.heap.objs.size = none := I.hok.fresh (Nat.le_refl _)
  have up : ∀ b u, s.heap.get? b = some u → (s.heap.push { cls := .type "dict", data := .dict #[] }).get? b = some u := fun b u e => Heap.get?_push_of_some _ e
  have I3 := I.laid (t' := s.toks) up (Nat.le_refl _) (dk_empty s.heap I.big)
  generalize hs3 : ({ s with heap := s.heap.push { cls := .type "dict", data := .dict #[] }, toks := s.toks } : Shared) = s3 at I3
  have hh : s3.heap = s.heap.push { cls := .type "dict", data := .dict #[] } := by rw [← hs3]
  have f3 : ∀ b ∈ fp, FpOk X pins (upd H s.heap.objs.size (.dK [])) b ∧ b < s3.heap.objs.size := fun b hb => by
    obtain ⟨u, e, _⟩ := T.obj _ _ st b hb
    have lt := Heap.lt_size e
    refine ⟨⟨?_, (hf b hb).2⟩, ?_⟩
    · rw [upd_ne (Nat.ne_of_lt lt)]
      exact (hf b hb).1
    · rw [hh, Heap.size_push]
      exact Nat.lt_succ_of_lt lt
  have I4 := block_start I3 ok hN f3
  have key := h s.heap.objs.size s3.heap.objs.size (cellsFrom (s3.heap.objs.size + 1) scope.names (cloFrom X.env.cells scope.names [])) s3 _ hDn
    ⟨I4, T.keep _ _ _ st fun b _ u e => pushCells_keeps _ _ _ _ (Heap.get?_push_of_some _ (by rw [hh]; exact up b u e)), fun b hb => (f3 b hb).1.1⟩
    (fun H' hn b hb => ⟨hn b hb, (I4.ok.exf b hb).1, I4.ok.exfs b hb, .inl hb, fun x c e => (I4.ok.exf b hb).2 x c e, fun p hp => nomatch hp⟩)
    (fun σ' H' s' I6 => ⟨I3.call' (ch := fp) I6.os I6.base I6.hok I6.bare fun b hb => ⟨(f3 b hb).1.2.2.2.1, (f3 b hb).1.2.1, (f3 b hb).1.2.2.2.2.1, (f3 b hb).1.2.2.2.2.2⟩, let ⟨m, hn, _⟩ := I6.loc; ⟨m, hn⟩, I3.fpOk (Nat.le_refl _) I6.free⟩)
  exact key
theorem pe_dc2 {scope : Scope} {own : List (Str × Nat)} {wa : TI} (hc : X.calm = true) (hN : X.N.Nodup) (hi : PI X ta ia wa) (ok : BlkOk X.N X.env.scope scope own) (hv : ∀ i ∈ vb, i ∈ own.map (·.2))
    (h1 : ∀ (s : Shared) (H : Hp) (C : Addr) (cl : List (Str × Addr)) (fp : List Addr), PG (X.blk s H scope (compEnvC scope cl C X.env) fp) ta ga) (h2 : ∀ (s : Shared) (H : Hp) (C : Addr) (cl : List (Str × Addr)) (fp : List Addr), PTs (X.blk s H scope (compEnvC scope cl C X.env) fp) ca qa)
    (h3 : ∀ (s : Shared) (H : Hp) (C : Addr) (cl : List (Str × Addr)) (fp : List Addr), PI (X.blk s H scope (compEnvC scope cl C X.env) fp) tb ib wb)
    (h4 : ∀ (s : Shared) (H : Hp) (C : Addr) (cl : List (Str × Addr)) (fp : List Addr), PG (X.blk s H scope (compEnvC scope cl C X.env) fp) tb gb) (h5 : ∀ (s : Shared) (H : Hp) (C : Addr) (cl : List (Str × Addr)) (fp : List Addr), PTs (X.blk s H scope (compEnvC scope cl C X.env) fp) cb qb)
    (h6 : ∀ (s : Shared) (H : Hp) (C : Addr) (cl : List (Str × Addr)) (fp : List Addr), PE (X.blk s H scope (compEnvC scope cl C X.env) fp) kx tk) (h7 : ∀ (s : Shared) (H : Hp) (C : Addr) (cl : List (Str × Addr)) (fp : List Addr), PE (X.blk s H scope (compEnvC scope cl C X.env) fp) vx tv)
    (hs : ∀ x, foldedSetIterable ia X.env x = pure x := by intro _; rfl) (hs1 : ∀ env x, foldedSetIterable ib env x = pure x := by intro _ _; rfl) :
    PE X (.DictComp kx vx [⟨ta, ia, ca, 0⟩, ⟨tb, ib, cb, 0⟩] scope pos) (tDc2 wa ga qa wb gb qb tk tv (own.map (·.2)) vb) := by
  refine ⟨fun ps s0 σ0 H0 Q I h => ?_⟩
  rw [arm_eval_DictComp]
  have hfr : ∀ y ∈ scope.names, y.2 = .free → ∃ c, X.env.cells.lookup y.1 = some c := fun y hy e => (ok.free y hy e).elim (fun k => I.ok.has _ (.inl k)) fun k => I.ok.has _ (.inr k)
  refine wpAny_comprehension_free rfl hs (closure_ok hfr) ok.kind (fun y hy e => by rw [ok.uniq y hy, e]) (thn (hi.run ps s0 σ0 H0 _ I h) fun xv s1 z => thn z fun iv s2 z2 => ?_)
  obtain ⟨a, fa, ta', Ja, H2, e, I2, T, st2, f2, q⟩ := z2
  subst e
  refine into_blk (Q := fun acc ce s4 => codeAny (model X.prog X.w) X.A (.compStart (.DictComp kx vx [⟨ta, ia, ca, 0⟩, ⟨tb, ib, cb, 0⟩] scope pos) 0 (.ref a) acc ce) (compPost (model X.prog X.w) X.A X.xe none (EP X ps σ0 Q) acc ce.locals) s4) hN ok I2 T st2 f2 fun D C cl s3 s4 hD wk stat leave => ?_
  obtain ⟨W, ⟨m0, w0⟩, turn⟩ := q D hD
  have loop : codeAny (model X.prog X.w) X.A (.compLoop (.DictComp kx vx [⟨ta, ia, ca, 0⟩, ⟨tb, ib, cb, 0⟩] scope pos) 0 (.ref a) (.ref D) (compEnvC scope cl C X.env)) (compPost (model X.prog X.w) X.A X.xe none (EP X ps σ0 Q) (.ref D) C) s4 :=
    loop_a (X := X.blk s3 (upd H2 D (.dK [])) scope (compEnvC scope cl C X.env) fa) hc rfl T (h1 _ _ _ _ _) (h2 _ _ _ _ _) (h3 _ _ _ _ _) (h4 _ _ _ _ _) (h5 _ _ _ _ _) (h6 _ _ _ _ _) (h7 _ _ _ _ _) stat (hs1 _) hv turn wk w0 fun H' s' I' qd => by
      obtain ⟨I7, ⟨m, hn⟩, f0, f1, f3, f4, f5, f6⟩ := leave _ H' s' I'
      exact ⟨m, hn, fun h' sb => ⟨.ref D, H', I7.turned (t' := s'.toks) (fun b u hb e => (sb.2 b hb).trans e) f0 f1 f4 f5 f6, rfl, qd⟩⟩
  exact codeAny_compStart_dict loop (T.self X.A 0 _ _ _ wk.st loop)
end
section
variable {J : It} {n : Nat} {G : Hp → Prop} {Y : Nat → Hp → V → Hp → Prop} {ga gb : TG} {qa qb : TT} {wb : TI} {tk tv : TE} {va vb : List Nat} {D : Addr} {σ : St}
/-- the first clause's walk, by its turns -/
theorem stepA_it (w : Walk J n G Y) {H0 : Hp} {Nd : Hp → Prop} (Pv : Nat → Hp → Prop) (h0 : Pv 0 H0) (hG : ∀ i H, i ≤ n → Pv i H → G H)
    (hs : ∀ i x H H', i < n → Pv i H → Y i H x H' → ga x (wipe σ va) H' fun σ2 H2 => wipe σ2 va = wipe σ va ∧ qa σ2 H2 fun b H3 =>
      if b = true then wb σ2 H3 fun Jb H4 => ∃ Wb : Nat → Nat → Hp → Prop, (∃ k, Wb 0 k H4) ∧ StepB gb qb tk tv vb D Jb σ2 (Pv (i + 1)) Wb else Pv (i + 1) H3) (hd : ∀ H, Pv n H → Nd H) :
    ∃ W : Nat → Nat → Hp → Prop, (∃ m, W 0 m H0) ∧ StepA ga qa wb gb qb tk tv va vb D J σ Nd W := by
  refine ⟨fun i m H => m = n - i ∧ i ≤ n ∧ Pv i H, ⟨n, rfl, Nat.zero_le _, h0⟩, fun i m H z => ?_⟩
  obtain ⟨rfl, hi, p⟩ := z
  rcases Nat.lt_or_ge i n with hlt | hge
  · exact .inr ⟨w.goes i H hlt (hG i H hi p), Pv (i + 1), fun H' p' => ⟨n - (i + 1), by omega, rfl, hlt, p'⟩, fun x H' y => hs i x H H' hlt p (w.yields i H x H' hlt (hG i H hi p) y)⟩
  · obtain rfl : i = n := Nat.le_antisymm hi hge
    exact .inl ⟨w.stops H (hG i H hi p), hd H p⟩
/-- the second clause's -/
theorem stepB_it (w : Walk J n G Y) {H0 : Hp} {Nx : Hp → Prop} (Pv : Nat → Hp → Prop) (h0 : Pv 0 H0) (hG : ∀ i H, i ≤ n → Pv i H → G H)
    (hs : ∀ i x H H', i < n → Pv i H → Y i H x H' → gb x (wipe σ vb) H' fun σ2 H2 => wipe σ2 vb = wipe σ vb ∧ qb σ2 H2 fun b H3 =>
      if b = true then tk σ2 H3 fun y H4 => tv σ2 H4 fun z H5 => ∃ kvs key, y = kV key ∧ H5 D = some (.dK kvs) ∧ kvs.length < sizeLine ∧ Pv (i + 1) (upd H5 D (.dK (putK kvs key z))) else Pv (i + 1) H3) (hd : ∀ H, Pv n H → Nx H) :
    ∃ W : Nat → Nat → Hp → Prop, (∃ m, W 0 m H0) ∧ StepB gb qb tk tv vb D J σ Nx W := by
  refine ⟨fun i m H => m = n - i ∧ i ≤ n ∧ Pv i H, ⟨n, rfl, Nat.zero_le _, h0⟩, fun i m H z => ?_⟩
  obtain ⟨rfl, hi, p⟩ := z
  rcases Nat.lt_or_ge i n with hlt | hge
  · exact .inr ⟨w.goes i H hlt (hG i H hi p), Pv (i + 1), fun H' p' => ⟨n - (i + 1), by omega, rfl, hlt, p'⟩, fun x H' y => hs i x H H' hlt p (w.yields i H x H' hlt (hG i H hi p) y)⟩
  · obtain rfl : i = n := Nat.le_antisymm hi hge
    exact .inl ⟨w.stops H (hG i H hi p), hd H p⟩
end
end L2.D2

set_option Elab.async false
set_option linter.all false
set_option maxRecDepth 100000
set_option maxHeartbeats 4000000
/-! max of a tuple of ints -/
namespace L2
open PySem PySem.Spec PyProof.Rows PySem.W
section
variable {X : Cx}
theorem fmax_ge : ∀ (l : List Int) (a : Int), a ≤ l.foldl max a ∧ ∀ z ∈ l, z ≤ l.foldl max a
  | [], a => ⟨Int.le_refl _, fun z hz => nomatch hz⟩
  | b :: l, a => by
    obtain ⟨h1, h2⟩ := fmax_ge l (max a b)
    rw [List.foldl_cons]
    refine ⟨by omega, fun z hz => ?_⟩
    rcases List.mem_cons.mp hz with rfl | hz
    · omega
    · exact h2 z hz
def rMaxTu (K : PySem.W.Frag) : List V → Hp → VK → Prop := fun vs H Q => ∃ (a : Addr) (ns : List Int), vs = [V.ref a] ∧ SqT K H a (ns.map V.int) ∧ ns ≠ [] ∧ ∀ m : Int, m ∈ ns → (∀ z ∈ ns, z ≤ m) → Q (.int m) H
theorem cr_maxTu (hh : X.A.handled = none) (hu : X.A.units + 65 < cLine) : CallR X (.builtin "max") (rMaxTu X.K) := by
  intro pins s σ H vs us Q I r h
  obtain ⟨a, ns, rfl, hs, hne, q⟩ := h
  obtain ⟨its, rv, tc, hz⟩ := I.tuple hs
  rw [Vals.ref1 r]
  obtain ⟨n, l, rfl⟩ := List.exists_cons_of_ne_nil hne
  obtain ⟨as, ra⟩ := readsAll_ints (h := s.heap) rv
  have al : ∀ x ∈ PyData.int n :: l.map PyData.int, ∃ b, x = .int b := fun x hx => by
    rw [← List.map_cons] at hx
    obtain ⟨b, _, e⟩ := List.mem_map.mp hx
    exact ⟨b, e.symm⟩
  refine max_tuple_data (x := .int n) (xs := l.map PyData.int) hh tc (by simpa using ra) ⟨fun x hx y hy => ?_, fun x hx z => ?_⟩ ?_ fun i v h' tk cs hv hr kp => ?_
  · obtain ⟨b1, rfl⟩ := al x hx
    obtain ⟨b2, rfl⟩ := al y hy
    simp [alike]
  · obtain ⟨b1, rfl⟩ := al x hx
    cases z
  · have := depth_ints0 (n :: l)
    rw [List.map_cons] at this
    omega
  · have hv2 : its[i]? = some v := by simpa using hv
    have hi : i < (n :: l).length := by
      have hl := rv.length
      rw [List.length_map] at hl
      rw [hl]
      exact (List.getElem?_eq_some_iff.mp hv2).1
    obtain ⟨z, ez, rz⟩ := rv.get (i := i) (x := V.int (n :: l)[i]) (by rw [List.getElem?_map, List.getElem?_eq_getElem hi]; rfl)
    obtain rfl : v = z := Option.some.inj (hv2.symm.trans ez)
    obtain ⟨t, rfl⟩ := rz
    rw [maxD_ints] at hr
    obtain ⟨h1, h2⟩ := fmax_ge l n
    have e : (n :: l)[i] = l.foldl max n := reads_int1 hr
    exact ⟨.int _, H, I.kept kp, ⟨t, rfl⟩, q _ (List.getElem_mem hi) fun z hz => by
      rw [e]
      rcases List.mem_cons.mp hz with rfl | hz
      · exact h1
      · exact h2 z hz⟩
end
end L2

set_option Elab.async false
set_option linter.all false
set_option maxRecDepth 100000
set_option maxHeartbeats 2000000
/-! rules whose reading names K (not X.K), for use in a comprehension's own block; blkOk_in: a comprehension in a comprehension -/
namespace L2
open PySem PySem.Spec PyProof.Rows Tw
section
variable {X : Cx} {K : PySem.W.Frag} {tg : Expr}
theorem pi_listK {l : Expr} {tl : TE} (hK : X.K = K) (hl : PE X l tl) : PI X tg l (iList K tl) := by
  subst hK
  exact pi_list hl
theorem pi_tupK {l : Expr} {tl : TE} (hK : X.K = K) (hl : PE X l tl) : PI X tg l (iTup K tl) := by
  subst hK
  exact pi_tup hl
theorem pi_enSK {e : Expr} {ta : TA} {p pos tpos : Pos} {elts : List Expr} {kk : Nat} (hK : X.K = K) (hg : Gl X "enumerate") (hm : X.mg "enumerate" = Option.none) (ha : PA X [e] ta) (hs : starEach [e] X.env = [(false, eval e X.env)] := by rfl) :
    PI X (.Tuple elts kk tpos) (.Call (.Name "enumerate" p) [e] [] pos) (iEnS K ta) := by
  subst hK
  exact pi_enS hg hm ha hs
theorem pi_zipAK {e e2 : Expr} {ta : TA} {p pos tpos : Pos} {elts : List Expr} {kk : Nat} (hK : X.K = K) (hg : Gl X "zip") (hm : X.mg "zip" = none) (ha : PA X [e, e2] ta)
    (hs : starEach [e, e2] X.env = (false, eval e X.env) :: starEach [e2] X.env := by rfl) (hpl : (backTo pos (starEach [e2] X.env)).any (·.1) = false := by rfl) :
    PI X (.Tuple elts kk tpos) (.Call (.Name "zip" p) [e, e2] [] pos) (RZ.iZipA K ta) := by
  subst hK
  exact RZ.pi_zipA hg hm ha hs hpl
theorem pe_fldK {e : Expr} {f : Str} {pos : Pos} {ta : TE} (hK : X.K = K) (he : PE X e ta) (hb : attributeBase e f X.env (eval e X.env) = eval e X.env) : PE X (.Attribute e f pos) (tFld K ta f) := by
  subst hK
  exact pe_fld he hb
theorem pe_orK {a b : Expr} {rest : List Expr} {pos : Pos} {ta tb : TE} (hK : X.K = K) (ha : PE X a ta) (hb : PE X (.BoolOp .Or (b :: rest) pos) tb) : PE X (.BoolOp .Or (a :: b :: rest) pos) (tOrT K ta tb) := by
  subst hK
  exact pe_orT ha hb
theorem pe_andK {a b : Expr} {rest : List Expr} {pos : Pos} {ta tb : TE} (hK : X.K = K) (ha : PE X a ta) (hb : PE X (.BoolOp .And (b :: rest) pos) tb) : PE X (.BoolOp .And (a :: b :: rest) pos) (tAndT K ta tb) := by
  subst hK
  exact pe_andT ha hb
theorem pe_notK {a : Expr} {pos : Pos} {ta : TE} (hK : X.K = K) (ha : PE X a ta) : PE X (.UnaryOp .Not a pos) (tNotT K ta) := by
  subst hK
  exact pe_notT ha
def rDictP (K : PySem.W.Frag) : List V → Hp → VK → Prop := fun xs H Q => ∃ (a : Addr) (ps : List Addr) (kvs : List (Key × V)), xs = [.ref a] ∧ SqL K H a (ps.map V.ref) ∧ Paired (fun p kv => SqT K H p [kV kv.1, kv.2]) ps kvs ∧ ∀ p, H p = none → Q (.ref p) (upd H p (.dK (mergeK [] kvs)))
theorem call_dictPK (hc : X.calm = true) : CallR X (.type "dict") (rDictP X.K) := call_dictP hc
theorem blkOk_in {N : List Str} {s : Shared} {H : Hp} {C : Addr} {cl : List (Str × Addr)} {fp : List Addr} {sc0 sc1 scope : Scope} {own : List (Str × Nat)} (hN : X.N = N) (h0 : X.env.scope = sc0) (h : blkC N (relS sc1 sc0) scope own = true) :
    BlkOk (X.blk s H sc1 (compEnvC sc1 cl C X.env) fp).N (X.blk s H sc1 (compEnvC sc1 cl C X.env) fp).env.scope scope own := by
  subst hN
  subst h0
  exact blkOk_by h
end
end L2

set_option Elab.async false
set_option linter.all false
set_option maxRecDepth 100000
set_option maxHeartbeats 2000000
/-! == and != of an own class where the other operand is an instance of another own class -/
namespace Tw
open PySem PySem.Spec PyProof.Rows L2
open PySem.W (InstAt looks_findIn looks_subIn ifBound_K cmp_K)
theorem nf_kit {K : PySem.W.Frag} {C : Addr} {t : Value} (h : PySem.W.kitOne K t (.ref C) = some false) : PySem.W.notFirst K C t = true := by
  unfold PySem.W.kitOne at h
  split at h
  · cases h
  · unfold PySem.W.kitCls at h
    simp only at h
    split at h
    · unfold PySem.W.notFirst
      rw [h]
      simp
    · cases h
section
variable {X : Cx} {CX : CXT} {K : PySem.W.Frag} {k : Nat} {f C : Addr} {fd : FuncData} {ps : List Str} {sp : Sp} {E : XK}
def rEqX (K : PySem.W.Frag) (C : Addr) (sp : Sp) (E : XK) (neg : Bool) : R2 := fun x y H Q =>
  ∃ a dx fs b D dy gs, x = .ref a ∧ H a = some (.ins C dx fs) ∧ y = .ref b ∧ H b = some (.ins D dy gs) ∧ PySem.W.kitOne K (.ref D) (.ref C) = some false ∧ sp [.ref a, y] H (fun v H' => ∃ r, v = .bl r ∧ Q (.bl (if neg then !r else r)) H') E
theorem op_eq_ownX (hK : X.K = K) (c : EqC X.K C f) (F : FnOk X.prog X.w X.K X.mg X.base CX k f fd ps sp) (hr : Room k X.A) (hb : Binds X.K fd ps []) (hx : Passes CX X E) : OpR X (compareOp .Eq) (rEqX K C sp E false) := by
  subst hK
  intro pins s σ H x y v u Q I rx ry ⟨a, dx, fs, b, D, dy, gs, ex, ha, ey, hb', kt, q⟩
  subst ex
  subst ey
  obtain rfl : v = Value.ref a := rx
  obtain rfl : u = Value.ref b := ry
  obtain ⟨mA, O, rr, _, _, _⟩ := ins_get I.hok ha
  obtain ⟨od, J, hl⟩ := O.look
  obtain ⟨mB, O2, rr2, _, _, _⟩ := ins_get I.hok hb'
  obtain ⟨od2, J2, hl2⟩ := O2.look
  obtain ⟨m0, hF⟩ := I.fr
  show wpAny _ _ (richCompare .Eq (.ref a) (.ref b)) _ _ _
  refine cmp_K hr.units0 hF I.ok.mod.kin J J2.type (nf_kit kt) c.eq c.fn (thn (run_sub F ⟨hr, rfl⟩ hb hx I (.cons (relR a) (.cons (relR b) .nil)) q) fun r s' ⟨z, H', I', rz, b, ez, q'⟩ => ?_)
  subst ez
  obtain rfl : r = Value.bool b := rz
  exact ⟨_, H', I', relB b, q'⟩
theorem op_ne_ownX (hK : X.K = K) (c : EqC X.K C f) (F : FnOk X.prog X.w X.K X.mg X.base CX k f fd ps sp) (hr : Room (k + 1) X.A) (hb : Binds X.K fd ps []) (hx : Passes CX X E) : OpR X (compareOp .NotEq) (rEqX K C sp E true) := by
  subst hK
  intro pins s σ H x y v u Q I rx ry ⟨a, dx, fs, b, D, dy, gs, ex, ha, ey, hb', kt, q⟩
  subst ex
  subst ey
  obtain rfl : v = Value.ref a := rx
  obtain rfl : u = Value.ref b := ry
  obtain ⟨mA, O, rr, _, _, _⟩ := ins_get I.hok ha
  obtain ⟨od, J, hl⟩ := O.look
  obtain ⟨mB, O2, rr2, _, _, _⟩ := ins_get I.hok hb'
  obtain ⟨od2, J2, hl2⟩ := O2.look
  obtain ⟨m0, hF⟩ := I.fr
  show wpAny _ _ (richCompare .NotEq (.ref a) (.ref b)) _ _ _
  refine ne_K (Room.units0 hr.in1) hr.units0 hF I.ok.mod.kin J J2.type (nf_kit kt) c (thn (run_sub F (Sub.in1 ⟨hr, rfl⟩) hb hx I (.cons (relR a) (.cons (relR b) .nil)) q) fun r s' ⟨z, H', I', rz, b, ez, q'⟩ => ?_)
  subst ez
  exact ⟨b, rz, _, H', I', relB (!b), q'⟩
end
end Tw

set_option Elab.async false
set_option linter.all false
set_option maxRecDepth 100000
set_option maxHeartbeats 2000000
/-! d.setdefault(t, x), d a dict keyed by tuples of ints and texts -/
namespace Dt
open PySem PySem.Spec PyProof.Rows L2
section
variable {X : Cx} {pins : List (Addr × Obj)} {σ : L2.St} {H : Hp} {s : Shared} {a b : Addr} {r : Value} {d : V} {k : List L2.Key} {A : Around} {E : Value → Shared → Prop}
theorem d_setdT {kvs : List (List L2.Key × V)} {Q : Value → Shared → Prop} (hu : A.units + 1 < cLine) (I : Inv X pins σ H s) (e : H a = some (.dT kvs)) (eb : H b = some (.tup (k.map kV))) (rd : RelV d r) (hl : kvs.length < sizeLine)
    (h1 : ∀ v, valV kvs k = some v → ∀ (w' : Value) (s' : Shared), Inv X pins σ H s' → RelV v w' → Q w' s') (h2 : valV kvs k = none → ∀ (w' : Value) (s' : Shared), Inv X pins σ (upd H a (.dT (putK kvs k d))) s' → RelV d w' → Q w' s') :
    wpAny (model X.prog X.w) A (call (.builtin "dict.setdefault") [.ref a, .ref b, r]) Q E s := by
  obtain ⟨z, hd, xs, rel, dd⟩ := dt_of I.hok e
  have hz : xs.length ≤ sizeLine := by
    rw [← Paired.length rel]
    exact z
  refine call_setdefault_heap (hsz := hz) (tupleKind_room_in1 hu) (key_of I.hok eb) hd dd (fun p hp => ?_) fun hn h' dd' hs => ?_
  · have q := rel.val k
    rw [hp] at q
    cases q0 : valV kvs k with
    | none =>
      rw [q0] at q
      exact (show False from q).elim
    | some v0 =>
      rw [q0] at q
      exact h1 v0 q0 _ _ (I.tok _) q
  · have q := rel.val k
    rw [hn] at q
    cases q0 : valV kvs k with
    | some v0 =>
      rw [q0] at q
      exact (show False from q).elim
    | none =>
      have hl2 : (putK kvs k d).length ≤ sizeLine := by
        have := length_putK kvs k d
        omega
      obtain ⟨q, es, ep, hq, h2', h3, h4, _, h5⟩ := dd'
      refine h2 q0 _ _ (d_write (t' := _) I (by rw [e]; exact True.intro) hs ⟨q, hq⟩ ⟨hl2, hd, _, (rel.put k eb rd).keeps fun c ys ec => ?_, q, es, ep, hq, h2', h3, h4, h5⟩) rd
      rw [upd_ne (ne_of ec e (fun z => nomatch z))]
      exact ec
end
/-- d.setdefault(y, z) -/
def tDSetdT (td ty tx : TE) : TE := fun σ H Q => td σ H fun x H1 => ∃ a, x = .ref a ∧ IsD H1 a ∧ ty σ H1 fun y H2 => tx σ H2 fun z H3 => ∃ (kvs : List (List L2.Key × V)) (k : List L2.Key) (b : Addr), H3 a = some (.dT kvs) ∧ y = .ref b ∧ H3 b = some (.tup (k.map kV)) ∧ kvs.length < sizeLine ∧
  (∀ v, valV kvs k = some v → Q v H3) ∧ (valV kvs k = none → Q z (upd H3 a (.dT (putK kvs k z))))
section
variable {X : Cx} {o e f : Expr} {td ty tx : TE} {apos cpos : Pos}
theorem pe_dsetdT (hu : X.A.units + 1 < cLine) (ho : PE X o td) (he : PE X e ty) (hf : PE X f tx) (m : M2 X o "setdefault" apos e f cpos) : PE X (.Call (.Attribute o "setdefault" apos) [e, f] [] cpos) (tDSetdT td ty tx) := by
  refine ⟨fun pins s σ H Q I h => ?_⟩
  refine wpAny_Call_method m.base m.few m.line PySem.F.plainAttrs_dict PySem.F.slot_dict_setdefault PySem.F.type_dict_setdefault (thn (ho.run pins s σ H _ I h) fun u s1 ⟨x, H1, I1, rx, a, ex, d, q1⟩ => ?_)
  subst ex
  obtain rfl : u = Value.ref a := rx
  obtain ⟨t1, t2, _⟩ := isD_at I1 d
  refine ⟨t1, t2, ?_⟩
  rw [m.trees]
  refine Calls.callWith_builtin rfl (Calls.evalArgs_plain (Calls.spliced_cons (thn (he.run pins s1 σ H1 _ I1 q1) fun iv s2 ⟨y, H2, I2, ry, q2⟩ =>
    Calls.spliced_cons (thn (hf.run pins s2 σ H2 _ I2 q2) fun fv s3 ⟨z, H3, I3, rz, kvs, k, b, ea, ey, eb, hl, q3, q4⟩ => Calls.spliced_nil ?_))))
  subst ey
  obtain rfl : iv = Value.ref b := ry
  exact d_setdT hu I3 ea eb rz hl (fun v hv w' s4 I4 rw' => ⟨v, _, I4, rw', q3 v hv⟩) fun hn w' s4 I4 rw' => ⟨z, _, I4, rw', q4 hn⟩
end
end Dt

set_option Elab.async false
set_option linter.all false
set_option maxRecDepth 100000
set_option maxHeartbeats 2000000
/-! dicts keyed by pairs (a tuple of ints, an int), with objects as values: {}, d[(t, p)] = x at a new key, d.get((t, p)), len(d) -/
namespace Nd
open PySem PySem.Spec PyProof.Rows L2
abbrev Pk : Type := List Int × Int
def nkI (ms : List Int) : List NestedKey := ms.map NestedKey.num
def nk (k : Pk) : NestedKey := .tup [.tup (nkI k.1), .num k.2]
theorem nkI_inj : ∀ {a b : List Int}, nkI a = nkI b → a = b
  | [], [], _ => rfl
  | [], _ :: _, h => by cases h
  | _ :: _, [], h => by cases h
  | x :: a, y :: b, h => by
    have h : NestedKey.num x :: nkI a = NestedKey.num y :: nkI b := h
    injection h with h1 h2
    injection h1 with h1
    rw [h1, nkI_inj h2]
theorem nk_inj {a b : Pk} (h : nk a = nk b) : a = b := by
  unfold nk at h
  injection h with h
  injection h with h1 h2
  injection h1 with h1
  injection h2 with h2 _
  injection h2 with h2
  exact Prod.ext (nkI_inj h1) h2
theorem nkI_deep : ∀ ms : List Int, NestedKey.depthAll (nkI ms) = 0
  | [] => rfl
  | x :: ms => by
    show max (NestedKey.depth (.num x)) (NestedKey.depthAll (nkI ms)) = 0
    rw [nkI_deep ms]
    rfl
theorem nk_deep (k : Pk) : (nk k).depth ≤ 8 := by
  show max (NestedKey.depthAll (nkI k.1) + 1) (max (NestedKey.depth (.num k.2)) 0) + 1 ≤ 8
  rw [nkI_deep]
  show max 1 (max 0 0) + 1 ≤ 8
  decide
theorem nest_ints {h : Heap} : ∀ {ms : List Int} {its : List Value}, Vals (ms.map V.int) its → NestedAll h (nkI ms) its
  | [], _, .nil => .nil
  | _ :: _, _, .cons ⟨t, e⟩ r => by
    subst e
    exact .cons (.int _ _) (nest_ints r)
section
variable {P : Program} {w : World} {H : Hp} {h : Heap}
theorem key_is {b t : Addr} {ms : List Int} {p : Int} (ok : HOk P w H h) (e : H b = some (.tup [.ref t, .int p])) (e2 : H t = some (.tup (ms.map V.int))) : (nestedKind P w).is h (nk (ms, p)) b := by
  obtain ⟨_, its, r, o, h1, h2, n, h3⟩ := (show ObjOk P w H h b (.tup [.ref t, .int p]) from ok b _ e)
  obtain ⟨_, its2, r2, o2, g1, g2, n2, g3⟩ := (show ObjOk P w H h t (.tup (ms.map V.int)) from ok t _ e2)
  refine ⟨?_, nk_deep _⟩
  cases r with
  | cons ra rr =>
    cases rr with
    | cons rb rc =>
      cases rc
      obtain rfl := (show _ = Value.ref t from ra)
      obtain ⟨t', rfl⟩ := rb
      refine .tup h1 h2 h3 ?_
      refine .cons (.tup g1 g2 g3 ?_) (.cons (.int _ _) .nil)
      simpa using nest_ints r2
end
/-- an entry: the key, the tuple that is the key, the value -/
abbrev En : Type := Pk × Addr × Addr
def nx (x : En) : NestedKey × Addr × Value := (nk x.1, x.2.1, .ref x.2.2)
def ndRaw (P : Program) (w : World) (a : Addr) (xs : List En) (h : Heap) : Prop :=
  xs.length ≤ sizeLine ∧ (a == sysModules) = false ∧ ∃ o es ep, h.get? a = some o ∧ o.ExactDict ∧ o.data = .dict es ep ∧ es.toList = (xs.map nx).map (entryOfKey (nestedKind P w)) ∧ ((xs.map nx).map (·.1)).Nodup
def ND (P : Program) (w : World) (a : Addr) (xs : List En) : HO := .ext (ndRaw P w a xs)
def KOk (H : Hp) (xs : List En) : Prop := ∀ x ∈ xs, ∃ t, H x.2.1 = some (.tup [.ref t, .int x.1.2]) ∧ H t = some (.tup (x.1.1.map V.int))
def valN (xs : List En) (k : Pk) : Option Addr := (xs.find? fun x => decide (x.1 = k)).map (·.2.2)
theorem valN_at (k : Pk) : ∀ xs : List En, (atKey (xs.map nx) (nk k)).map (·.2) = (valN xs k).map Value.ref
  | [] => rfl
  | x :: xs => by
    have ih := valN_at k xs
    unfold atKey valN at ih ⊢
    rw [List.map_cons, List.find?_cons, List.find?_cons]
    by_cases e : x.1 = k
    · rw [decide_eq_true (show (nx x).1 = nk k by unfold nx; rw [e]), decide_eq_true e]
      rfl
    · rw [decide_eq_false (show ¬ (nx x).1 = nk k from fun z => e (nk_inj z)), decide_eq_false e]
      exact ih
section
variable {X : Cx} {pins : List (Addr × Obj)} {σ : L2.St} {H : Hp} {s : Shared} {a : Addr}
theorem nd_raw {xs : List En} (I : Inv X pins σ H s) (e : H a = some (ND X.prog X.w a xs)) : ndRaw X.prog X.w a xs s.heap :=
  (show ObjOk X.prog X.w H s.heap a (ND X.prog X.w a xs) from I.hok a _ e).1
theorem nd_at {xs : List En} (I : Inv X pins σ H s) (e : H a = some (ND X.prog X.w a xs)) (hk : KOk H xs) : s.heap.DictOfH (nestedKind X.prog X.w) a (xs.map nx) := by
  obtain ⟨_, _, o, es, ep, h1, h2, h3, h4, h5⟩ := nd_raw I e
  refine ⟨o, es, ep, h1, h2, h3, h4, fun x hx => ?_, h5⟩
  obtain ⟨y, hy, rfl⟩ := List.mem_map.mp hx
  obtain ⟨t, e1, e2⟩ := hk y hy
  exact key_is I.hok e1 e2
theorem nd_type {xs : List En} (I : Inv X pins σ H s) (e : H a = some (ND X.prog X.w a xs)) :
    s.TypeIs (.ref a) "dict" ∧ ∀ b, Value.ref a = .ref b → ∃ ob, s.heap.get? b = some ob ∧ ob.dict = none := by
  obtain ⟨_, _, o, es, ep, h1, h2, h3, h4, h5⟩ := nd_raw I e
  refine ⟨⟨o, h1, h2.1⟩, fun b q => ?_⟩
  cases q
  exact ⟨o, h1, h2.2.1⟩
theorem nd_ok {P : Program} {w : World} {H : Hp} {h : Heap} {xs : List En} (r : ndRaw P w a xs h) : ObjOk P w H h a (ND P w a xs) := by
  obtain ⟨_, _, o, _, _, h1, _⟩ := id r
  refine ⟨r, ⟨o, h1⟩, fun g1 g2 p k => ?_⟩
  obtain ⟨z, y, o, es, ep, h1, h2⟩ := p
  exact ⟨z, y, o, es, ep, k _ h1, h2⟩
theorem in8 {A : Around} (hu : A.units + 64 < cLine) : A.in1.units + 8 < cLine := by
  show A.units + 1 + 8 < cLine
  omega
end
/-- {} -/
def tNew (P : Program) (w : World) : TE := fun _ H Q => ∀ p, H p = none → Q (.ref p) (upd H p (ND P w p []))
section
variable {X : Cx} {pos : Pos}
theorem pe_dnewN : PE X (.Dict [] [] pos) (tNew X.prog X.w) := ⟨fun pins s σ H Q I h =>
  wpAny_Dict_empty ⟨.ref s.heap.objs.size, _, I.laid (a := s.heap.objs.size) (o := ND X.prog X.w s.heap.objs.size []) (t' := s.toks) (fun _ _ q => Heap.get?_push_of_some _ q) (Nat.le_refl _)
    (nd_ok ⟨Nat.zero_le _, beq_eq_false_iff_ne.mpr (Ne.symm (Nat.ne_of_lt I.big)), _, #[], 0, Heap.get?_push_size _ rfl, ⟨rfl, rfl, rfl⟩, rfl, rfl, List.nodup_nil⟩), rfl, h _ (I.hok.fresh (Nat.le_refl _))⟩⟩
end
/-- d[y] = v, y a new key -/
def sPut (P : Program) (w : World) (td ty tv : TE) : TS := fun D σ H => tv σ H fun v H1 => td σ H1 fun x H2 => ty σ H2 fun y H3 =>
  ∃ (a b c t : Addr) (xs : List En) (k : Pk), x = .ref a ∧ v = .ref c ∧ y = .ref b ∧ H3 a = some (ND P w a xs) ∧ KOk H3 xs ∧ H3 b = some (.tup [.ref t, .int k.2]) ∧ H3 t = some (.tup (k.1.map V.int)) ∧ valN xs k = none ∧ xs.length < sizeLine ∧
    D.nx σ (upd H3 a (ND P w a (xs ++ [(k, b, c)])))
section
variable {X : Cx} {o i value : Expr} {td ty tv : TE} {pos pos' : Pos}
theorem ps_put (hu : X.A.units + 64 < cLine) (ho : PE X o td) (hi : PE X i ty) (hv : PE X value tv) (hs : swapsWith value (some (.Subscript o i pos')) pos.line X.env = pure false) :
    PS X (.Assign [.Subscript o i pos'] value pos) (sPut X.prog X.w td ty tv) := by
  refine ⟨fun pins s σ H D I h => ?_⟩
  refine wpAny_Assign_Subscript (thn (hv.run pins s σ H _ I h) fun r s1 ⟨v, H1, I1, rv, q1⟩ => thn (ho.run pins s1 σ H1 _ I1 q1) fun u s2 ⟨x, H2, I2, rx, q2⟩ => thn (hi.run pins s2 σ H2 _ I2 q2) fun iv s3 ⟨y, H3, I3, ry, a, b, c, t, xs, k, ex, ev, ey, ea, hk, eb, et, hn, hl, q3⟩ => ?_) hs
  subst ex ev ey
  obtain rfl : u = Value.ref a := rx
  obtain rfl : r = Value.ref c := rv
  obtain rfl : iv = Value.ref b := ry
  have hat : atKey (xs.map nx) (nk k) = none := by
    have h := valN_at k xs
    rw [hn] at h
    exact Option.map_eq_none_iff.mp h
  refine wpAny_setItem_heap (hsz := by rw [List.length_map]; omega) (in8 hu) (key_is I3.hok eb et) (nd_at I3 ea hk) fun h' dd' hs' => ⟨σ, _, ?_, q3⟩
  rw [show (k.1, k.2) = k from rfl, storedH_new hat] at dd'
  obtain ⟨z, y, _⟩ := nd_raw I3 ea
  obtain ⟨q, es, ep, hq, h2, h3, h4, _, h5⟩ := dd'
  refine d_write I3 (by rw [ea]; exact True.intro) hs' ⟨q, hq⟩ (nd_ok ⟨by rw [List.length_append]; exact hl, y, q, es, ep, hq, h2, h3, ?_, ?_⟩)
  · rw [List.map_append]
    exact h4
  · rw [List.map_append]
    exact h5
end
/-- d.get(y) -/
def tGet (P : Program) (w : World) (td ty : TE) : TE := fun σ H Q => td σ H fun x H1 => ∃ a xs0, x = .ref a ∧ H1 a = some (ND P w a xs0) ∧ ty σ H1 fun y H2 =>
  ∃ (b t : Addr) (xs : List En) (k : Pk), y = .ref b ∧ H2 a = some (ND P w a xs) ∧ KOk H2 xs ∧ H2 b = some (.tup [.ref t, .int k.2]) ∧ H2 t = some (.tup (k.1.map V.int)) ∧ Q (((valN xs k).map V.ref).getD .non) H2
section
variable {X : Cx} {o e : Expr} {td ty : TE} {apos cpos : Pos}
theorem pe_get (hu : X.A.units + 64 < cLine) (ho : PE X o td) (he : PE X e ty) (m : M1 X o "get" apos e cpos) : PE X (.Call (.Attribute o "get" apos) [e] [] cpos) (tGet X.prog X.w td ty) := by
  refine ⟨fun pins s σ H Q I h => ?_⟩
  refine wpAny_Call_method m.base m.few m.line PySem.F.plainAttrs_dict PySem.F.slot_dict_get PySem.F.type_dict_get (thn (ho.run pins s σ H _ I h) fun u s1 ⟨x, H1, I1, rx, a, xs0, ex, d, q1⟩ => ?_)
  subst ex
  obtain rfl : u = Value.ref a := rx
  obtain ⟨t1, t2⟩ := nd_type I1 d
  refine ⟨t1, t2, ?_⟩
  rw [m.trees]
  refine Calls.callWith_builtin rfl (Calls.evalArgs_plain (Calls.spliced_cons (thn (he.run pins s1 σ H1 _ I1 q1) fun iv s2 ⟨y, H2, I2, ry, b, t, xs, k, ey, ea, hk, eb, et, q2⟩ => Calls.spliced_nil ?_)))
  subst ey
  obtain rfl : iv = Value.ref b := ry
  obtain ⟨z, hd, _⟩ := nd_raw I2 ea
  have dd := nd_at I2 ea hk
  refine call_meetsIn PySem.F.slot_dict_get dd.typeIs PySem.F.entry_dict_get (PySem.F.args_dict_get_2 _ _) (meetsH_dict_get (nestedKind X.prog X.w) a b hd) ⟨in8 hu, nk k, xs.map nx, key_is I2.hok eb et, dd, ?_⟩
  rw [valN_at]
  refine ⟨((valN xs k).map V.ref).getD .non, H2, I2.tok _, ?_, q2⟩
  cases valN xs k with
  | none => rfl
  | some c => rfl
end
/-- len(d) -/
def rLenN (P : Program) (w : World) : List V → Hp → VK → Prop := fun xs H Q => ∃ (p : Addr) (es : List En), xs = [.ref p] ∧ H p = some (ND P w p es) ∧ KOk H es ∧ Q (.int ((es.length : Nat) : Int)) H
theorem call_lenN {X : Cx} : CallR X (.builtin "len") (rLenN X.prog X.w) := by
  intro pins s σ H xs us Q I r h
  obtain ⟨p, es, rfl, hp, hk, q⟩ := h
  obtain ⟨u, rfl, rx⟩ := vals1 r
  obtain rfl : u = .ref p := rx
  obtain ⟨z, hd, _⟩ := nd_raw I hp
  refine call_len_dictH hd (nd_at I hp hk) (by rw [List.length_map]; rw [sizeLine_eq] at z; omega) ?_
  rw [List.length_map]
  exact ⟨.int es.length, H, I.tok _, ⟨_, rfl⟩, q⟩
end Nd

set_option Elab.async false
set_option linter.all false
set_option maxRecDepth 100000
set_option maxHeartbeats 2000000
/-! max(xs, key=len), xs a list of tuples -/
namespace Ml
open PySem PySem.Spec PyProof.Rows L2 LamX
def tMaxLen (K : PySem.W.Frag) (te : TE) : TE := fun σ H Q => te σ H fun v H1 => ∃ (a : Addr) (xs : List V) (ls : Nat → Nat), v = .ref a ∧ SqL K H1 a xs ∧ 0 < xs.length ∧
  (∀ (j : Nat) (y : V), xs[j]? = some y → ∃ (t : Addr) (ys : List V), y = .ref t ∧ SqT K H1 t ys ∧ ls j = ys.length) ∧
  ∀ (j : Nat) (y : V), Lm.FirstMost (fun i => ((ls i : Nat) : Int)) xs.length j → xs[j]? = some y → Q y H1
section
variable {X : Cx} {pins : List (Addr × Obj)} {σ : L2.St} {H : Hp} {s : Shared}
theorem moved_inv {S it : Addr} {s4 s5 : Shared} (I : Inv X pins σ H s4) (fS : FpOk X pins H S) (fI : FpOk X pins H it) (m : Moved [S, it] (fun a b => b = a) s4 s5) : Inv X pins σ H s5 := by
  have e5 : s5 = { s4 with heap := s5.heap, toks := s5.toks } := by
    obtain ⟨hp, g, d, tk, os⟩ := s5
    have h1 : g = s4.gens := m.gens
    have h2 : d = s4.drawn := m.drawn
    have h3 : os = s4.os := m.os
    subst h1 h2 h3
    rfl
  rw [e5]
  exact I.turnedL (ch := [S, it]) (fun c o hc ho => m.heap c o hc ho) (fun b hb => by
    rcases List.mem_cons.mp hb with z | hb
    · rw [z]; exact fS
    · rw [List.mem_singleton.mp hb]; exact fI)
theorem max_run {a : Addr} {xs : List V} {ls : Nat → Nat} {Q : VK} (I2 : Inv X pins σ H s) (hh : X.A.handled = none) (hsq : SqL X.K H a xs) (hne : 0 < xs.length)
    (qk : ∀ (j : Nat) (y : V), xs[j]? = some y → ∃ (t : Addr) (ys : List V), y = .ref t ∧ SqT X.K H t ys ∧ ls j = ys.length)
    (qf : ∀ (j : Nat) (y : V), Lm.FirstMost (fun i => ((ls i : Nat) : Int)) xs.length j → xs[j]? = some y → Q y H) :
    wpAny (model X.prog X.w) X.A (call (.builtin "max") [.ref a] [(Str.ofString "key", .builtin "len")]) (EP X pins σ Q) X.xe s := by
  have hsq : Zm.SqM X.K false H a xs := hsq
  obtain ⟨its, rv0, p0⟩ := Zm.sq_get I2 hsq
  have hnI := I2.hok.fresh (Nat.le_refl s.heap.objs.size)
  have alt := Zm.hSq_lt p0
  obtain ⟨n, en⟩ : ∃ n, xs.length = n + 1 := ⟨xs.length - 1, by omega⟩
  refine call_max_walkKB (Zm.newM p0 ?_)
  have szp : (s.heap.push (Zm.oIt false a)).objs.size = s.heap.objs.size + 1 := Heap.size_push ..
  have ltp : s.heap.objs.size < (s.heap.push (Zm.oIt false a)).objs.size := by rw [szp]; exact Nat.lt_succ_self _
  have fpI : FpOk X pins H s.heap.objs.size := I2.fpOk (Nat.le_refl _) hnI
  have fpS : FpOk X pins H (s.heap.push (Zm.oIt false a)).objs.size := I2.fpOk (Nat.le_of_lt ltp) (I2.hok.fresh (Nat.le_of_lt ltp))
  refine ⟨s.heap.objs.size, _, _, _, xs.length, _, _, fun s' => Inv X pins σ H s', fun i k _ => ∃ t, k = .int ((ls i : Nat) : Int) t, fun i j => decide (((ls i : Nat) : Int) > ((ls j : Nat) : Int)), rfl, Lm.walkM (prog := X.prog) (w := X.w) (A := X.A.in1) hh false s.heap.objs.size a (Nat.ne_of_lt alt) xs,
    ⟨Zm.hIt_young (Heap.get?_push_size _ rfl), its, rv0, Zm.hSq_up p0 fun o e => Heap.get?_push_of_some _ e⟩, fun b hb => ?_, hne, ⟨?_, ?_, ?_, ?_⟩, ?_, ?_⟩
  · show b < (s.heap.push (Zm.oIt false a)).objs.size
    rcases List.mem_cons.mp hb with z | hb
    · rw [z]; exact ltp
    · rw [List.mem_singleton.mp hb]; exact Nat.lt_trans alt ltp
  · intro s4 s5 k' m
    exact moved_inv k' fpS fpI m
  · exact fun i k s1 s' v _ => v
  · rintro j v s4 o Q' E' hj ⟨y, hy, ry⟩ k' stI hS cont
    obtain ⟨t, ys, rfl, ht, el⟩ := qk j y hy
    obtain rfl : v = Value.ref t := ry
    obtain ⟨it2, r', pl, hz⟩ := k'.tuple ht
    have hlen := r'.length
    have hn := line63
    refine len_tuple pl (by simp only [List.size_toArray] <;> omega) ?_
    exact cont _ _ (k'.tok _) stI hS ⟨_, by rw [List.size_toArray, el, hlen]⟩ fun _ _ z => z
  · intro i j ki kj s4 Q' E' _ vi vj q'
    exact CmpOf.ints_gt (prog := X.prog) (w := X.w) (A := X.A.in1) (P := fun i v => ∃ t, v = .int ((ls i : Nat) : Int) t) (fun i => ((ls i : Nat) : Int)) (fun i v h => h) i j ki kj s4 Q' E' vi vj q'
  · exact I2.kept (t' := s.toks) fun b o e => Heap.get?_push_of_some _ e
  · rintro v s5 ⟨y, hy, ry⟩ k'
    refine ⟨y, H, k', ry, qf _ y ?_ hy⟩
    rw [en, Nat.add_sub_cancel]
    exact Lm.most_is (fun i => ((ls i : Nat) : Int)) n
variable {e : Expr} {te : TE} {p p2 kpos pos : Pos}
theorem pe_maxlen (hg : Gl X "max") (hm : X.mg "max" = none) (hg2 : Gl X "len") (hm2 : X.mg "len" = none) (he : PE X e te) (hh : X.A.handled = none) (hs : starEach [e] X.env = (false, eval e X.env) :: starEach [] X.env := by rfl) :
    PE X (.Call (.Name "max" p) [e] [⟨some "key", .Name "len" p2, kpos⟩] pos) (tMaxLen X.K te) := by
  refine ⟨fun pins s σ H Q I h => ?_⟩
  refine wpAny_Call_Name_kw (ld_blt I hg hm (u := .builtin "max") (by decide +kernel) ?_)
  refine PyProof.Rows.callWith_kw ?_ (by rw [hs]; rfl) (by rw [hs]; rfl) (by rfl) (by rfl)
  rw [hs]
  show wpAny _ _ (spliced ((false, eval e X.env) :: backTo pos (starEach [] X.env))) _ _ s
  refine Calls.spliced_cons (thn (he.run pins s σ H _ I h) fun u s1 ⟨v, H1, I1, r1, a, xs, ls, ev, hl, hne, qk, qf⟩ => Calls.spliced_nil ?_)
  subst ev
  obtain rfl : u = Value.ref a := r1
  show wpAny _ _ (evalAll ((do let v ← eval (.Name "len" p2) X.env; standAt pos; pure v) :: [])) _ _ s1
  refine wpAny_evalAll_cons (wpAny_bind (ld_blt I1 hg2 hm2 (u := .builtin "len") (by decide +kernel) (wpAny_bind (wpAny_standAt (wpAny_pure (wpAny_evalAll_nil ?_))))))
  exact max_run I1 hh hl hne qk qf
end
end Ml

set_option Elab.async false
set_option linter.all false
set_option maxRecDepth 100000
set_option maxHeartbeats 2000000
/-! xs.remove(y), xs a list of plain things (tuples of ints), y there -/
namespace Rm
open PySem PySem.Spec PyProof.Rows L2 SeqAt
section
variable {X : Cx}
def rRemD (K : PySem.W.Frag) : V → List V → Hp → VK → Prop := fun x xs H Q => ∃ (l : Addr) (vs : List V) (ds : List PyData) (y : V) (d : PyData) (j : Nat), x = .ref l ∧ xs = [y] ∧ H l = some (.lst vs) ∧ DpAll K H vs ds ∧ Dp K H y d ∧ PyData.plainAll ds = true ∧ d.plain = true ∧ d.depth ≤ 60 ∧ dataPlace ds d = some j ∧
  Q .non (upd H l (.lst (vs.eraseIdx j)))
theorem mt_removeD (hu : X.A.units + 64 < cLine) : MtM X "list.remove" (rRemD X.K) := by
  intro pins s σ H x xs v us Q I rx rxs h
  obtain ⟨l, vs, ds, y, d, j, rfl, rfl, hH, hds, hd, hp1, hp2, hdd, hj, q⟩ := h
  cases rx
  obtain ⟨u, rfl, ru⟩ := rxs.one
  obtain ⟨z, its, n, r, hl, e⟩ := I.lstM hH
  obtain ⟨as, r1⟩ := Dp.readsAll I ds vs its hds r
  obtain ⟨bs, r2⟩ := Dp.reads I d y u hd ru
  have e' : s.heap.IsList l its.toArray := ⟨_, e, rfl, n, rfl⟩
  refine remove_list_data (j := j) e' (by simpa using r1) r2 hp1 hp2 (by have := Nat.min_le_right (PyData.depthAll ds) d.depth; omega) hj (by rw [List.size_toArray]; omega) ?_
  have rr := r.eraseIdx j
  refine ⟨.non, _, I.lset (its' := its.eraseIdx j) (t' := s.toks) hH e ?_ rr ?_, rfl, q⟩
  · show its.toArray.eraseIdxIfInBounds j = (its.eraseIdx j).toArray
    rw [List.eraseIdxIfInBounds_toArray]
  · have := List.length_eraseIdx_le vs j
    omega
end
end Rm

set_option Elab.async false
set_option linter.all false
set_option maxRecDepth 100000
set_option maxHeartbeats 2000000
/-! x in t, x not in t: t a tuple of plain things (tuples of ints) -/
namespace Td
open PySem PySem.Spec PyProof.Rows L2
section
variable {X : Cx}
def rInDT (K : PySem.W.Frag) : R2 := fun x y H Q => ∃ d ds, Dp K H x d ∧ Dp K H y (.tuple ds) ∧ SeqAt.shaped d = true ∧ SeqAt.shaped (.list ds) = true ∧ Q (.bl (ds.any fun z => PyData.eqv z d)) H
def rNotInDT (K : PySem.W.Frag) : R2 := fun x y H Q => ∃ d ds, Dp K H x d ∧ Dp K H y (.tuple ds) ∧ SeqAt.shaped d = true ∧ SeqAt.shaped (.list ds) = true ∧ Q (.bl (!ds.any fun z => PyData.eqv z d)) H
theorem op_inDT (hu : X.A.units + 65 < cLine) : OpR X (compareOp .In) (rInDT X.K) := by
  intro pins s σ H x y v u Q I rx ry h
  obtain ⟨d, ds, hd, he, sd, se, q⟩ := h
  obtain ⟨as, r1⟩ := Dp.reads I d x v hd rx
  obtain ⟨bs, r2⟩ := Dp.reads I (.tuple ds) y u he ry
  exact SeqAt.in_tuple_reads r2 r1 (SeqAt.canLay_of_shaped se) (SeqAt.canLay_of_shaped sd) (room_in_shaped sd hu) ⟨.bl _, H, I, rfl, q⟩
theorem op_notInDT (hu : X.A.units + 65 < cLine) : OpR X (compareOp .NotIn) (rNotInDT X.K) := by
  intro pins s σ H x y v u Q I rx ry h
  obtain ⟨d, ds, hd, he, sd, se, q⟩ := h
  obtain ⟨as, r1⟩ := Dp.reads I d x v hd rx
  obtain ⟨bs, r2⟩ := Dp.reads I (.tuple ds) y u he ry
  exact SeqAt.notIn_tuple_reads r2 r1 (SeqAt.canLay_of_shaped se) (SeqAt.canLay_of_shaped sd) (room_in_shaped sd hu) ⟨.bl _, H, I, rfl, q⟩
end
end Td

set_option Elab.async false
set_option linter.all false
set_option maxRecDepth 100000
set_option maxHeartbeats 2000000
/-! own: the end's facts by addresses that are functions of the heap's part; one Bool for all of them -/
namespace Sh
open PySem PySem.Spec PyProof.Rows L2
section
variable {Kf : PySem.W.Frag}
/-- where things stand -/
def gA (Kf : PySem.W.Frag) (n : Str) : Addr := (match PySem.W.nsIn Kf mainGlobals n with | some (some (.ref z)) => z | _ => 0)
def mA (Kf : PySem.W.Frag) (cl : Addr) (n : Str) : Addr := (match PySem.W.findIn Kf (.ref cl) n with | some (some (.ref z)) => z | _ => 0)
def recA (Kf : PySem.W.Frag) (p : Addr) (n : String) : Addr := (match PySem.W.recIn Kf p n with | some (.ref z :: _) => z | _ => 0)
def recT (Kf : PySem.W.Frag) (p : Addr) (n : String) : List Value := (match PySem.W.recIn Kf p n with | some (_ :: r) => r | _ => [])
def clsA (Kf : PySem.W.Frag) (cl : Addr) (n : Str) : Addr := (match PySem.W.findCls Kf (.ref cl) (.type "type") n with | some (.get _ (.ref z) _ _) => z | _ => 0)
def tokI (Kf : PySem.W.Frag) (o : Addr) (n : Str) : Tok := (match PySem.W.nsIn Kf o n with | some (some (.int _ t)) => t | _ => default)
def tokS (Kf : PySem.W.Frag) (o : Addr) (n : Str) : Tok := (match PySem.W.nsIn Kf o n with | some (some (.str _ t)) => t | _ => default)
def fdA (Kf : PySem.W.Frag) (p : Addr) : Option FuncData := (match Kf.lookup p with | some z => (match z.data with | .func y => some y | _ => none) | none => none)
def kwA (Kf : PySem.W.Frag) (p : Addr) : Addr := (match fdA Kf p with | some y => (match y.kwdefaults with | .ref z => z | _ => 0) | none => 0)
def cdA (Kf : PySem.W.Frag) (p : Addr) : Addr := (match fdA Kf p with | some y => (match y.code with | .ref z => z | _ => 0) | none => 0)
def refB : Value → Bool
  | .ref _ => true
  | _ => false
def noB : Value → Bool
  | .none => true
  | _ => false
end
/-- one function: where it stands, what it is -/
structure FnA where
  pl : PySem.W.Frag → Addr
  nm : Str
  qn : Str
  pr : Arguments
  bd : List Stmt
  sc : Scope
abbrev FV : Type := Option (Str × Str × Arguments × FuncBody × Scope × Addr × List (Str × Addr) × Addr)
def fnV (Kf : PySem.W.Frag) (p : Addr) : FV := (match fdA Kf p with
  | some y => some (y.name, y.qualname, y.params, y.body, y.scope, y.globals, y.closure, y.builtins)
  | none => none)
def FnA.val (d : FnA) : FV := some (d.nm, d.qn, d.pr, FuncBody.stmts d.bd, d.sc, mainGlobals, [], builtinsNs)
/-- kw: its own table of keyword defaults; cd: its code object is named -/
def fnB (Kf : PySem.W.Frag) (p : Addr) (q : Str) (kw : Bool) : Bool := PySem.W.keepIn Kf (.ref p) && (match fdA Kf p with
  | some y => PySem.W.codeIn Kf y.code q && (noB y.defaults && (!kw || refB y.kwdefaults))
  | none => false)
theorem fdA_some {Kf : PySem.W.Frag} {p : Addr} {y : FuncData} (h : fdA Kf p = some y) : ∃ oc od sl, Kf.lookup p = some ⟨oc, od, .func y, sl⟩ := by
  unfold fdA at h
  cases e : Kf.lookup p with
  | none => rw [e] at h; cases h
  | some z =>
    obtain ⟨oc, od, dt, sl⟩ := z
    rw [e] at h
    cases dt with
    | func u =>
      have k : u = y := Option.some.inj h
      exact ⟨oc, od, sl, by rw [k]⟩
    | _ => cases h
theorem fn_any {Kf : PySem.W.Frag} {d : FnA} {p : Addr} {kw : Bool} (e : fnV Kf p = d.val) (c : fnB Kf p d.qn kw = true) :
    PySem.W.keepIn Kf (.ref p) = true ∧ ∃ (y : FuncData) (kV dc pm : Value) (an : Option Addr) (cd ct : Value), fdA Kf p = some y ∧ y = PySem.W.fnOf d.nm d.qn d.pr d.bd d.sc .none kV dc pm an cd ct ∧ PySem.W.codeIn Kf cd d.qn = true ∧ (kw = true → refB kV = true) := by
  obtain ⟨c1, c2⟩ := Bool.and_eq_true_iff.mp c
  refine ⟨c1, ?_⟩
  unfold fnV FnA.val at e
  cases q : fdA Kf p with
  | none => rw [q] at e; cases e
  | some y =>
    rw [q] at e c2
    obtain ⟨x1, x2, x3, x4, x5, x6, x7, x8, x9, x10, x11, x12, x13, x14, x15⟩ := y
    obtain ⟨c3, c4⟩ := Bool.and_eq_true_iff.mp c2
    obtain ⟨c5, c6⟩ := Bool.and_eq_true_iff.mp c4
    have e2 := Option.some.inj e
    simp only [Prod.mk.injEq] at e2
    obtain ⟨r1, r2, r3, r4, r5, r6, r7, r8⟩ := e2
    subst r1 r2 r3 r4 r5 r6 r7 r8
    have n8 : x8 = Value.none := by
      have c5 : noB x8 = true := c5
      cases x8 <;> first | rfl | cases c5
    subst n8
    refine ⟨_, x9, x10, x11, x12, x13, x14, rfl, rfl, c3, fun hk => ?_⟩
    rw [hk] at c6
    exact c6
theorem ref_of {v : Value} (h : refB v = true) : ∃ z, v = .ref z := by
  cases v with
  | ref z => exact ⟨z, rfl⟩
  | _ => cases h
theorem cd_ref {Kf : PySem.W.Frag} {v : Value} {q : Str} (h : PySem.W.codeIn Kf v q = true) : ∃ z, v = .ref z := He.codeIn_ref h
/-- what a function's two rows give: nothing named; its table named; its code object named -/
theorem fn_g {Kf : PySem.W.Frag} {d : FnA} {p : Addr} (e : fnV Kf p = d.val) (c : fnB Kf p d.qn false = true) :
    ∃ (oc : Value) (od : Option Addr) (sl : Array (Option Value)) (kV dc pm : Value) (an : Option Addr) (cd ct : Value), Kf.lookup p = some ⟨oc, od, .func (PySem.W.fnOf d.nm d.qn d.pr d.bd d.sc .none kV dc pm an cd ct), sl⟩ ∧ PySem.W.codeIn Kf cd d.qn = true ∧ PySem.W.keepIn Kf (.ref p) = true := by
  obtain ⟨kp, y, kV, dc, pm, an, cd, ct, hy, rfl, hc, _⟩ := fn_any e c
  obtain ⟨oc, od, sl, hl⟩ := fdA_some hy
  exact ⟨oc, od, sl, kV, dc, pm, an, cd, ct, hl, hc, kp⟩
theorem fn_k {Kf : PySem.W.Frag} {d : FnA} {p : Addr} (e : fnV Kf p = d.val) (c : fnB Kf p d.qn true = true) :
    ∃ (oc : Value) (od : Option Addr) (sl : Array (Option Value)) (dc pm : Value) (an : Option Addr) (cd ct : Value), Kf.lookup p = some ⟨oc, od, .func (PySem.W.fnOf d.nm d.qn d.pr d.bd d.sc .none (.ref (kwA Kf p)) dc pm an cd ct), sl⟩ ∧ PySem.W.codeIn Kf cd d.qn = true ∧ PySem.W.keepIn Kf (.ref p) = true := by
  obtain ⟨kp, y, kV, dc, pm, an, cd, ct, hy, rfl, hc, hk⟩ := fn_any e c
  obtain ⟨z, rfl⟩ := ref_of (hk rfl)
  obtain ⟨oc, od, sl, hl⟩ := fdA_some hy
  have ez : kwA Kf p = z := by unfold kwA; rw [hy]
  rw [ez]
  exact ⟨oc, od, sl, dc, pm, an, cd, ct, hl, hc, kp⟩
theorem fn_c {Kf : PySem.W.Frag} {d : FnA} {p : Addr} (e : fnV Kf p = d.val) (c : fnB Kf p d.qn false = true) :
    ∃ (oc : Value) (od : Option Addr) (sl : Array (Option Value)) (kV dc pm : Value) (an : Option Addr) (ct : Value), Kf.lookup p = some ⟨oc, od, .func (PySem.W.fnOf d.nm d.qn d.pr d.bd d.sc .none kV dc pm an (.ref (cdA Kf p)) ct), sl⟩ ∧ PySem.W.codeIn Kf (.ref (cdA Kf p)) d.qn = true ∧ PySem.W.keepIn Kf (.ref p) = true := by
  obtain ⟨kp, y, kV, dc, pm, an, cd, ct, hy, rfl, hc, _⟩ := fn_any e c
  obtain ⟨z, rfl⟩ := cd_ref hc
  obtain ⟨oc, od, sl, hl⟩ := fdA_some hy
  have ez : cdA Kf p = z := by unfold cdA; rw [hy]
  rw [ez]
  exact ⟨oc, od, sl, kV, dc, pm, an, ct, hl, hc, kp⟩
theorem fn_kc {Kf : PySem.W.Frag} {d : FnA} {p : Addr} (e : fnV Kf p = d.val) (c : fnB Kf p d.qn true = true) :
    ∃ (oc : Value) (od : Option Addr) (sl : Array (Option Value)) (dc pm : Value) (an : Option Addr) (ct : Value), Kf.lookup p = some ⟨oc, od, .func (PySem.W.fnOf d.nm d.qn d.pr d.bd d.sc .none (.ref (kwA Kf p)) dc pm an (.ref (cdA Kf p)) ct), sl⟩ ∧ PySem.W.codeIn Kf (.ref (cdA Kf p)) d.qn = true ∧ PySem.W.keepIn Kf (.ref p) = true := by
  obtain ⟨kp, y, kV, dc, pm, an, cd, ct, hy, rfl, hc, hk⟩ := fn_any e c
  obtain ⟨z, rfl⟩ := ref_of (hk rfl)
  obtain ⟨u, rfl⟩ := cd_ref hc
  obtain ⟨oc, od, sl, hl⟩ := fdA_some hy
  have ez : kwA Kf p = z := by unfold kwA; rw [hy]
  have eu : cdA Kf p = u := by unfold cdA; rw [hy]
  rw [ez, eu]
  exact ⟨oc, od, sl, dc, pm, an, ct, hl, hc, kp⟩
/-- a class's own maker -/
def ofB (Kf : PySem.W.Frag) (cl p : Addr) (n : Str) : Bool := (match PySem.W.findCls Kf (.ref cl) (.type "type") n with | some (.get (.builtin x) (.ref y) .none (.ref z)) => decide (x = "classmethod.__get__") && (decide (y = p) && decide (z = cl)) | _ => false)
theorem ofB_ok {Kf : PySem.W.Frag} {cl p : Addr} {n : Str} (h : ofB Kf cl p n = true) : PySem.W.findCls Kf (.ref cl) (.type "type") n = some (.get (.builtin "classmethod.__get__") (.ref p) .none (.ref cl)) := by
  unfold ofB at h
  split at h
  · rename_i x y z e
    obtain ⟨h1, h2⟩ := Bool.and_eq_true_iff.mp h
    obtain ⟨h3, h4⟩ := Bool.and_eq_true_iff.mp h2
    rw [e, of_decide_eq_true h1, of_decide_eq_true h3, of_decide_eq_true h4]
  · cases h
/-! ### the hook -/
def tabB (g : Addr → Option Obj) (Kf : PySem.W.Frag) (p : Addr × Addr) : Bool := PySem.W.codeHdIn Kf p.1 p.2 && (match g p.2 with | some z => He.emptyTab z | none => false)
abbrev AlA : Type := List FV × Bool
section
variable (as : List Addr) (fs : List FnA) (ex : PySem.W.Frag → Bool) (tf : PySem.W.Frag → List (Addr × Addr))
def obA (Kf : PySem.W.Frag) (g : Addr → Option Obj) : AlA := (fs.map fun d => fnV Kf (d.pl Kf), ex Kf && (tf Kf).all (tabB g Kf))
def obG (g : Addr → Option Obj) : AlA := obA fs ex tf (He.frT g as) g
structure Tells (h : Heap) (Kf : PySem.W.Frag) : Prop where
  fn : ∀ d ∈ fs, fnV Kf (d.pl Kf) = d.val
  ex : ex Kf = true
  hd : ∀ p ∈ tf Kf, PySem.W.codeHdIn Kf p.1 p.2 = true
  out : ∀ p ∈ tf Kf, Kf.lookup p.2 = none
  em : ∀ p ∈ tf Kf, h.get? p.2 = some (PySem.W.tabObj #[])
variable {as fs ex tf}
theorem map_all {α β : Type} {f g : α → β} : ∀ {l : List α}, l.map f = l.map g → ∀ x ∈ l, f x = g x
  | [], _, _, hx => absurd hx List.not_mem_nil
  | a :: r, h, x, hx => by
    rw [List.map_cons, List.map_cons] at h
    injection h with h1 h2
    rcases List.mem_cons.mp hx with rfl | hx
    · exact h1
    · exact map_all h2 x hx
theorem tells_of {h : Heap} (e : obG as fs ex tf h.get? = (fs.map FnA.val, true)) : Tells fs ex tf h (He.frT h.get? as) := by
  have e1 := congrArg Prod.fst e
  have e2 := congrArg Prod.snd e
  obtain ⟨b1, b2⟩ := Bool.and_eq_true_iff.mp (show (ex (He.frT h.get? as) && (tf (He.frT h.get? as)).all (tabB h.get? (He.frT h.get? as))) = true from e2)
  have key : ∀ p ∈ tf (He.frT h.get? as), PySem.W.codeHdIn (He.frT h.get? as) p.1 p.2 = true ∧ ∃ z, h.get? p.2 = some z ∧ He.emptyTab z = true := fun p hp => by
    obtain ⟨b3, b4⟩ := Bool.and_eq_true_iff.mp (List.all_eq_true.mp b2 p hp)
    refine ⟨b3, ?_⟩
    cases q : h.get? p.2 with
    | none => rw [q] at b4; cases b4
    | some z => rw [q] at b4; exact ⟨z, rfl, b4⟩
  refine ⟨map_all e1, b1, fun p hp => (key p hp).1, fun p hp => ?_, fun p hp => ?_⟩
  · obtain ⟨_, z, hz, k⟩ := key p hp
    exact He.frT_none hz k
  · obtain ⟨_, z, hz, k⟩ := key p hp
    rw [hz, He.emptyTab_eq k]
variable (as fs ex tf)
def hook : PySem.W.Hook where
  α := AlA
  obs := fun s => obG as fs ex tf s.heap.get?
  val := fun _ => (fs.map FnA.val, true)
  says := fun _ h => ∃ Kf : PySem.W.Frag, Kf.In h ∧ Tells fs ex tf h Kf
  of := fun _ _ e => ⟨_, He.frT_in, tells_of e⟩
  keeps := fun _ _ _ ⟨Kf, i, t⟩ k => ⟨Kf, PySem.W.Frag.In.keeps i k, ⟨t.fn, t.ex, t.hd, t.out, fun p hp => k _ _ (t.em p hp)⟩⟩
def obT (s : PySem.W.SharedT) : AlA := obG as fs ex tf (HandSHeadRun.getT s)
theorem obT_eq (s : PySem.W.SharedT) : obT as fs ex tf s = (hook as fs ex tf).obs s.abs := by
  have e : HandSHeadRun.getT s = s.abs.heap.get? := funext (HandSHeadRun.getT_eq s)
  show obG as fs ex tf (HandSHeadRun.getT s) = obG as fs ex tf s.abs.heap.get?
  rw [e]
end
theorem at_ {α : Type} {l : List α} {d : α} (i : Nat) (h : l[i]? = some d) : d ∈ l := List.mem_of_getElem? h
theorem band {a b : Bool} (h : (a && b) = true) : a = true ∧ b = true := Bool.and_eq_true_iff.mp h
end Sh

set_option Elab.async false
set_option linter.all false
set_option maxRecDepth 100000
set_option maxHeartbeats 2000000
namespace Tw
open PySem PySem.Spec PyProof.Rows L2
def topS (i : Nat) : Stmt := PySem.Challenge.pw_heaprows_k30_whole_mended_shown.main.body.getD i (.Pass ⟨0, 0, 0, 0⟩)
abbrev s_is_integer : Stmt := topS 11
theorem sc_is_integer : FnScope ["thing"] ["thing"] (defScope s_is_integer) := ⟨rfl, rfl, rfl, by decide +kernel, rfl, by decide +kernel, by decide +kernel⟩
abbrev s_is_integer_from : Stmt := topS 12
theorem sc_is_integer_from : FnScope ["thing", "least", "greatest"] ["thing", "least", "greatest"] (defScope s_is_integer_from) := ⟨rfl, rfl, rfl, by decide +kernel, rfl, by decide +kernel, by decide +kernel⟩
abbrev s_is_key : Stmt := topS 13
theorem sc_is_key : FnScope ["thing"] ["thing"] (defScope s_is_key) := ⟨rfl, rfl, rfl, by decide +kernel, rfl, by decide +kernel, by decide +kernel⟩
abbrev s_check_arms : Stmt := topS 14
theorem sc_check_arms : FnScope ["arms"] ["arms"] (defScope s_check_arms) := ⟨rfl, rfl, rfl, by decide +kernel, rfl, by decide +kernel, by decide +kernel⟩
abbrev s_check_many : Stmt := topS 15
theorem sc_check_many : FnScope ["many"] ["many"] (defScope s_check_many) := ⟨rfl, rfl, rfl, by decide +kernel, rfl, by decide +kernel, by decide +kernel⟩
abbrev s_check_place : Stmt := topS 16
theorem sc_check_place : FnScope ["place", "many"] ["place", "many"] (defScope s_check_place) := ⟨rfl, rfl, rfl, by decide +kernel, rfl, by decide +kernel, by decide +kernel⟩
abbrev s_row_of : Stmt := topS 17
theorem sc_row_of : FnScope ["row", "index", "key"] ["row"] (defScope s_row_of) := ⟨rfl, rfl, rfl, by decide +kernel, rfl, by decide +kernel, by decide +kernel⟩
abbrev s_t___init__ : Stmt := inClass (topS 19) 0
theorem sc_t___init__ : FnScope ["self", "many", "arms"] ["self", "many", "arms"] (defScope s_t___init__) := ⟨rfl, rfl, rfl, by decide +kernel, rfl, by decide +kernel, by decide +kernel⟩
abbrev s_t_of : Stmt := inClass (topS 19) 1
theorem sc_t_of : FnScope ["cls", "row", "arms"] ["cls", "row", "arms"] (defScope s_t_of) := ⟨rfl, rfl, rfl, by decide +kernel, rfl, by decide +kernel, by decide +kernel⟩
abbrev s_t___len__ : Stmt := inClass (topS 19) 2
theorem sc_t___len__ : FnScope ["self"] ["self"] (defScope s_t___len__) := ⟨rfl, rfl, rfl, by decide +kernel, rfl, by decide +kernel, by decide +kernel⟩
abbrev s_t___contains__ : Stmt := inClass (topS 19) 3
theorem sc_t___contains__ : FnScope ["self", "thing"] ["self", "thing"] (defScope s_t___contains__) := ⟨rfl, rfl, rfl, by decide +kernel, rfl, by decide +kernel, by decide +kernel⟩
abbrev s_t___iter__ : Stmt := inClass (topS 19) 4
theorem sc_t___iter__ : FnScope ["self"] ["self"] (defScope s_t___iter__) := ⟨rfl, rfl, rfl, by decide +kernel, rfl, by decide +kernel, by decide +kernel⟩
abbrev s_t___getitem__ : Stmt := inClass (topS 19) 5
theorem sc_t___getitem__ : FnScope ["self", "place", "first"] ["self", "place"] (defScope s_t___getitem__) := ⟨rfl, rfl, rfl, by decide +kernel, rfl, by decide +kernel, by decide +kernel⟩
abbrev s_t_parent : Stmt := inClass (topS 19) 7
theorem sc_t_parent : FnScope ["self", "place"] ["self", "place"] (defScope s_t_parent) := ⟨rfl, rfl, rfl, by decide +kernel, rfl, by decide +kernel, by decide +kernel⟩
abbrev s_t_way_to : Stmt := inClass (topS 19) 8
theorem sc_t_way_to : FnScope ["self", "place", "way", "above"] ["self", "place"] (defScope s_t_way_to) := ⟨rfl, rfl, rfl, by decide +kernel, rfl, by decide +kernel, by decide +kernel⟩
abbrev s_t_subtree : Stmt := inClass (topS 19) 12
theorem sc_t_subtree : FnScope ["self", "place", "below"] ["self", "place"] (defScope s_t_subtree) := ⟨rfl, rfl, rfl, by decide +kernel, rfl, by decide +kernel, by decide +kernel⟩
abbrev s_m___init__ : Stmt := inClass (topS 21) 0
theorem sc_m___init__ : FnScope ["self", "row", "kept", "chains", "chain"] ["self", "row", "kept", "chains"] (defScope s_m___init__) := ⟨rfl, rfl, rfl, by decide +kernel, rfl, by decide +kernel, by decide +kernel⟩
abbrev s_m___eq__ : Stmt := inClass (topS 21) 1
theorem sc_m___eq__ : FnScope ["self", "other"] ["self", "other"] (defScope s_m___eq__) := ⟨rfl, rfl, rfl, by decide +kernel, rfl, by decide +kernel, by decide +kernel⟩
abbrev s_m_shows : Stmt := inClass (topS 21) 2
theorem sc_m_shows : FnScope ["self", "row", "arms", "tree", "place", "chain"] ["self", "row", "arms"] (defScope s_m_shows) := ⟨rfl, rfl, rfl, by decide +kernel, rfl, by decide +kernel, by decide +kernel⟩
abbrev s_mend : Stmt := topS 22
theorem sc_mend : FnScope ["row", "arms", "tree", "kept"] ["row", "arms"] (defScope s_mend) := ⟨rfl, rfl, rfl, by decide +kernel, rfl, by decide +kernel, by decide +kernel⟩
abbrev s_sets_to_keep : Stmt := topS 23
theorem sc_sets_to_keep : FnScope ["row", "tree", "found", "place", "greater", "above", "kept"] ["row", "tree"] (defScope s_sets_to_keep) := ⟨rfl, rfl, rfl, by decide +kernel, rfl, by decide +kernel, by decide +kernel⟩
abbrev s_mended_row : Stmt := topS 24
theorem sc_mended_row : FnScope ["row", "kept", "tree", "keys", "place"] ["row", "kept", "tree"] (defScope s_mended_row) := ⟨rfl, rfl, rfl, by decide +kernel, rfl, by decide +kernel, by decide +kernel⟩
abbrev s_falling_chains : Stmt := topS 25
theorem sc_falling_chains : FnScope ["row", "tree", "chains", "place", "below", "lesser", "longer", "chain"] ["row", "tree"] (defScope s_falling_chains) := ⟨rfl, rfl, rfl, by decide +kernel, rfl, by decide +kernel, by decide +kernel⟩
abbrev s_is_rising : Stmt := topS 26
theorem sc_is_rising : FnScope ["keys", "tree", "place", "child"] ["keys", "tree"] (defScope s_is_rising) := ⟨rfl, rfl, rfl, by decide +kernel, rfl, by decide +kernel, by decide +kernel⟩
abbrev s_is_falling : Stmt := topS 27
theorem sc_is_falling : FnScope ["chain", "row", "tree", "upper", "lower"] ["chain", "row", "tree"] (defScope s_is_falling) := ⟨rfl, rfl, rfl, by decide +kernel, rfl, by decide +kernel, by decide +kernel⟩
abbrev s__law_number : Stmt := topS 29
theorem sc__law_number : FnScope ["script", "index", "cells", "cell", "low", "high", "total", "blend"] ["script", "index"] (defScope s__law_number) := ⟨rfl, rfl, rfl, by decide +kernel, rfl, by decide +kernel, by decide +kernel⟩
abbrev s__law_take : Stmt := topS 30
theorem sc__law_take : FnScope ["draw", "many"] ["draw", "many"] (defScope s__law_take) := ⟨rfl, rfl, rfl, by decide +kernel, rfl, by decide +kernel, by decide +kernel⟩
abbrev s__law_pick : Stmt := topS 31
theorem sc__law_pick : FnScope ["draw", "things"] ["draw", "things"] (defScope s__law_pick) := ⟨rfl, rfl, rfl, by decide +kernel, rfl, by decide +kernel, by decide +kernel⟩
abbrev s__law_parent : Stmt := topS 32
theorem sc__law_parent : FnScope ["wide", "place"] ["wide", "place"] (defScope s__law_parent) := ⟨rfl, rfl, rfl, by decide +kernel, rfl, by decide +kernel, by decide +kernel⟩
abbrev s__law_way : Stmt := topS 33
theorem sc__law_way : FnScope ["wide", "place", "way", "lap"] ["wide", "place"] (defScope s__law_way) := ⟨rfl, rfl, rfl, by decide +kernel, rfl, by decide +kernel, by decide +kernel⟩
abbrev s__law_arms : Stmt := topS 34
theorem sc__law_arms : FnScope ["draw"] ["draw"] (defScope s__law_arms) := ⟨rfl, rfl, rfl, by decide +kernel, rfl, by decide +kernel, by decide +kernel⟩
abbrev s__law_keys : Stmt := topS 35
theorem sc__law_keys : FnScope ["draw", "most", "span", "turn"] ["draw", "most", "span"] (defScope s__law_keys) := ⟨rfl, rfl, rfl, by decide +kernel, rfl, by decide +kernel, by decide +kernel⟩
abbrev s__law_is_heap : Stmt := topS 36
theorem sc__law_is_heap : FnScope ["row", "wide", "place", "above"] ["row", "wide"] (defScope s__law_is_heap) := ⟨rfl, rfl, rfl, by decide +kernel, rfl, by decide +kernel, by decide +kernel⟩
abbrev s__law_are_chains : Stmt := topS 37
theorem sc__law_are_chains : FnScope ["row", "wide", "chains", "chain", "one", "other", "every", "place"] ["row", "wide", "chains"] (defScope s__law_are_chains) := ⟨rfl, rfl, rfl, by decide +kernel, rfl, by decide +kernel, by decide +kernel⟩
abbrev s__law_is_mended : Stmt := topS 38
theorem sc__law_is_mended : FnScope ["row", "wide", "three", "late", "kept", "chains", "same", "place"] ["row", "wide", "three"] (defScope s__law_is_mended) := ⟨rfl, rfl, rfl, by decide +kernel, rfl, by decide +kernel, by decide +kernel⟩
abbrev s__law_loose : Stmt := topS 39
theorem sc__law_loose : FnScope ["row", "wide", "many", "place", "chains", "ends", "rest", "chain"] ["row", "wide", "many"] (defScope s__law_loose) := ⟨rfl, rfl, rfl, by decide +kernel, rfl, by decide +kernel, by decide +kernel⟩
abbrev s__law_parts : Stmt := topS 40
theorem sc__law_parts : FnScope ["draw", "row", "found", "wide", "late", "kept", "chains", "way", "spot", "place", "chain"] ["draw", "row", "found", "wide"] (defScope s__law_parts) := ⟨rfl, rfl, rfl, by decide +kernel, rfl, by decide +kernel, by decide +kernel⟩
abbrev s_law : Stmt := topS 41
theorem sc_law : FnScope ["script", "draw", "turn", "wide", "row", "found", "spot", "three", "due", "made", "others", "chain", "other"] ["script"] (defScope s_law) := ⟨rfl, rfl, rfl, by decide +kernel, rfl, by decide +kernel, by decide +kernel⟩
/-- where the text's defs stand -/
structure Ad where
  f_is_integer : Addr
  d_is_integer : FuncData
  f_is_integer_from : Addr
  d_is_integer_from : FuncData
  f_is_key : Addr
  d_is_key : FuncData
  f_check_arms : Addr
  d_check_arms : FuncData
  f_check_many : Addr
  d_check_many : FuncData
  f_check_place : Addr
  d_check_place : FuncData
  f_row_of : Addr
  d_row_of : FuncData
  f_t___init__ : Addr
  d_t___init__ : FuncData
  f_t_of : Addr
  d_t_of : FuncData
  f_t___len__ : Addr
  d_t___len__ : FuncData
  f_t___contains__ : Addr
  d_t___contains__ : FuncData
  f_t___iter__ : Addr
  d_t___iter__ : FuncData
  f_t___getitem__ : Addr
  d_t___getitem__ : FuncData
  f_t_parent : Addr
  d_t_parent : FuncData
  f_t_way_to : Addr
  d_t_way_to : FuncData
  f_t_subtree : Addr
  d_t_subtree : FuncData
  f_m___init__ : Addr
  d_m___init__ : FuncData
  f_m___eq__ : Addr
  d_m___eq__ : FuncData
  f_m_shows : Addr
  d_m_shows : FuncData
  f_mend : Addr
  d_mend : FuncData
  f_sets_to_keep : Addr
  d_sets_to_keep : FuncData
  f_mended_row : Addr
  d_mended_row : FuncData
  f_falling_chains : Addr
  d_falling_chains : FuncData
  f_is_rising : Addr
  d_is_rising : FuncData
  f_is_falling : Addr
  d_is_falling : FuncData
  f__law_number : Addr
  d__law_number : FuncData
  f__law_take : Addr
  d__law_take : FuncData
  f__law_pick : Addr
  d__law_pick : FuncData
  f__law_parent : Addr
  d__law_parent : FuncData
  f__law_way : Addr
  d__law_way : FuncData
  f__law_arms : Addr
  d__law_arms : FuncData
  f__law_keys : Addr
  d__law_keys : FuncData
  f__law_is_heap : Addr
  d__law_is_heap : FuncData
  f__law_are_chains : Addr
  d__law_are_chains : FuncData
  f__law_is_mended : Addr
  d__law_is_mended : FuncData
  f__law_loose : Addr
  d__law_loose : FuncData
  f__law_parts : Addr
  d__law_parts : FuncData
  f_law : Addr
  d_law : FuncData
  C : Addr
  po : Addr
  CM : Addr
  c_falling_chains : Addr
  P_falling_chains : Addr
/-- what the top has written -/
structure Tx (K : PySem.W.Frag) (mg : Str → Option Value) (A : Ad) : Prop where
  F_is_integer : Fun K "is_integer" "is_integer" s_is_integer A.f_is_integer A.d_is_integer
  m_is_integer : mg "is_integer" = some (.ref A.f_is_integer)
  F_is_integer_from : Fun K "is_integer_from" "is_integer_from" s_is_integer_from A.f_is_integer_from A.d_is_integer_from
  m_is_integer_from : mg "is_integer_from" = some (.ref A.f_is_integer_from)
  F_is_key : Fun K "is_key" "is_key" s_is_key A.f_is_key A.d_is_key
  m_is_key : mg "is_key" = some (.ref A.f_is_key)
  F_check_arms : Fun K "check_arms" "check_arms" s_check_arms A.f_check_arms A.d_check_arms
  m_check_arms : mg "check_arms" = some (.ref A.f_check_arms)
  F_check_many : Fun K "check_many" "check_many" s_check_many A.f_check_many A.d_check_many
  m_check_many : mg "check_many" = some (.ref A.f_check_many)
  F_check_place : Fun K "check_place" "check_place" s_check_place A.f_check_place A.d_check_place
  m_check_place : mg "check_place" = some (.ref A.f_check_place)
  F_row_of : Fun K "row_of" "row_of" s_row_of A.f_row_of A.d_row_of
  m_row_of : mg "row_of" = some (.ref A.f_row_of)
  F_t___init__ : FunD K "__init__" "Tree.__init__" (defArgs s_t___init__) (defBody s_t___init__) (defScope s_t___init__) [] [("arms", V.int 2)] A.f_t___init__ A.d_t___init__
  F_t_of : FunD K "of" "Tree.of" (defArgs s_t_of) (defBody s_t_of) (defScope s_t_of) [] [("arms", V.int 2)] A.f_t_of A.d_t_of
  F_t___len__ : Fun K "__len__" "Tree.__len__" s_t___len__ A.f_t___len__ A.d_t___len__
  D_t___len__ : Dn K A.C "__len__" A.f_t___len__
  F_t___contains__ : Fun K "__contains__" "Tree.__contains__" s_t___contains__ A.f_t___contains__ A.d_t___contains__
  D_t___contains__ : Dn K A.C "__contains__" A.f_t___contains__
  F_t___iter__ : Fun K "__iter__" "Tree.__iter__" s_t___iter__ A.f_t___iter__ A.d_t___iter__
  D_t___iter__ : Dn K A.C "__iter__" A.f_t___iter__
  F_t___getitem__ : Fun K "__getitem__" "Tree.__getitem__" s_t___getitem__ A.f_t___getitem__ A.d_t___getitem__
  D_t___getitem__ : Dn K A.C "__getitem__" A.f_t___getitem__
  F_t_parent : Fun K "parent" "Tree.parent" s_t_parent A.f_t_parent A.d_t_parent
  M_t_parent : Meth K A.C "parent" A.f_t_parent
  F_t_way_to : Fun K "way_to" "Tree.way_to" s_t_way_to A.f_t_way_to A.d_t_way_to
  M_t_way_to : Meth K A.C "way_to" A.f_t_way_to
  F_t_subtree : Fun K "subtree" "Tree.subtree" s_t_subtree A.f_t_subtree A.d_t_subtree
  M_t_subtree : Meth K A.C "subtree" A.f_t_subtree
  F_m___init__ : Fun K "__init__" "Mended.__init__" s_m___init__ A.f_m___init__ A.d_m___init__
  F_m___eq__ : Fun K "__eq__" "Mended.__eq__" s_m___eq__ A.f_m___eq__ A.d_m___eq__
  F_m_shows : FunD K "shows" "Mended.shows" (defArgs s_m_shows) (defBody s_m_shows) (defScope s_m_shows) [] [("arms", V.int 2)] A.f_m_shows A.d_m_shows
  M_m_shows : Meth K A.CM "shows" A.f_m_shows
  F_mend : FunD K "mend" "mend" (defArgs s_mend) (defBody s_mend) (defScope s_mend) [] [("arms", V.int 2)] A.f_mend A.d_mend
  m_mend : mg "mend" = some (.ref A.f_mend)
  F_sets_to_keep : Fun K "sets_to_keep" "sets_to_keep" s_sets_to_keep A.f_sets_to_keep A.d_sets_to_keep
  m_sets_to_keep : mg "sets_to_keep" = some (.ref A.f_sets_to_keep)
  F_mended_row : Fun K "mended_row" "mended_row" s_mended_row A.f_mended_row A.d_mended_row
  m_mended_row : mg "mended_row" = some (.ref A.f_mended_row)
  L_falling_chains : ∃ (oc : Value) (od : Option Addr) (kV doc pm : Value) (an : Option Addr) (ct : Value) (osl : Array (Option Value)), A.d_falling_chains = PySem.W.fnOf "falling_chains" "falling_chains" (defArgs s_falling_chains) (defBody s_falling_chains) (defScope s_falling_chains) .none kV doc pm an (.ref A.c_falling_chains) ct ∧ K.lookup A.f_falling_chains = some ⟨oc, od, .func A.d_falling_chains, osl⟩ ∧ PySem.W.codeIn K (.ref A.c_falling_chains) "falling_chains" = true
  F_falling_chains : Fun K "falling_chains" "falling_chains" s_falling_chains A.f_falling_chains A.d_falling_chains
  m_falling_chains : mg "falling_chains" = some (.ref A.f_falling_chains)
  F_is_rising : Fun K "is_rising" "is_rising" s_is_rising A.f_is_rising A.d_is_rising
  m_is_rising : mg "is_rising" = some (.ref A.f_is_rising)
  F_is_falling : Fun K "is_falling" "is_falling" s_is_falling A.f_is_falling A.d_is_falling
  m_is_falling : mg "is_falling" = some (.ref A.f_is_falling)
  F__law_number : Fun K "_law_number" "_law_number" s__law_number A.f__law_number A.d__law_number
  m__law_number : mg "_law_number" = some (.ref A.f__law_number)
  F__law_take : Fun K "_law_take" "_law_take" s__law_take A.f__law_take A.d__law_take
  m__law_take : mg "_law_take" = some (.ref A.f__law_take)
  F__law_pick : Fun K "_law_pick" "_law_pick" s__law_pick A.f__law_pick A.d__law_pick
  m__law_pick : mg "_law_pick" = some (.ref A.f__law_pick)
  F__law_parent : Fun K "_law_parent" "_law_parent" s__law_parent A.f__law_parent A.d__law_parent
  m__law_parent : mg "_law_parent" = some (.ref A.f__law_parent)
  F__law_way : Fun K "_law_way" "_law_way" s__law_way A.f__law_way A.d__law_way
  m__law_way : mg "_law_way" = some (.ref A.f__law_way)
  F__law_arms : Fun K "_law_arms" "_law_arms" s__law_arms A.f__law_arms A.d__law_arms
  m__law_arms : mg "_law_arms" = some (.ref A.f__law_arms)
  F__law_keys : Fun K "_law_keys" "_law_keys" s__law_keys A.f__law_keys A.d__law_keys
  m__law_keys : mg "_law_keys" = some (.ref A.f__law_keys)
  F__law_is_heap : Fun K "_law_is_heap" "_law_is_heap" s__law_is_heap A.f__law_is_heap A.d__law_is_heap
  m__law_is_heap : mg "_law_is_heap" = some (.ref A.f__law_is_heap)
  F__law_are_chains : Fun K "_law_are_chains" "_law_are_chains" s__law_are_chains A.f__law_are_chains A.d__law_are_chains
  m__law_are_chains : mg "_law_are_chains" = some (.ref A.f__law_are_chains)
  F__law_is_mended : Fun K "_law_is_mended" "_law_is_mended" s__law_is_mended A.f__law_is_mended A.d__law_is_mended
  m__law_is_mended : mg "_law_is_mended" = some (.ref A.f__law_is_mended)
  F__law_loose : Fun K "_law_loose" "_law_loose" s__law_loose A.f__law_loose A.d__law_loose
  m__law_loose : mg "_law_loose" = some (.ref A.f__law_loose)
  F__law_parts : Fun K "_law_parts" "_law_parts" s__law_parts A.f__law_parts A.d__law_parts
  m__law_parts : mg "_law_parts" = some (.ref A.f__law_parts)
  F_law : Fun K "law" "law" s_law A.f_law A.d_law
  m_law : mg "law" = some (.ref A.f_law)
  c_GREATEST_KEY : mg "GREATEST_KEY" = some (.int 1000000000 0) ∨ ∃ t, mg "GREATEST_KEY" = some (.int 1000000000 t)
  c_MOST_ARMS : mg "MOST_ARMS" = some (.int 4 0) ∨ ∃ t, mg "MOST_ARMS" = some (.int 4 t)
  c_MOST_PLACES : mg "MOST_PLACES" = some (.int 12 0) ∨ ∃ t, mg "MOST_PLACES" = some (.int 12 t)
  g_all : mg "all" = none
  g_any : mg "any" = none
  g_bool : mg "bool" = none
  g_enumerate : mg "enumerate" = none
  g_int : mg "int" = none
  g_isinstance : mg "isinstance" = none
  g_iter : mg "iter" = none
  g_len : mg "len" = none
  g_list : mg "list" = none
  g_max : mg "max" = none
  g_min : mg "min" = none
  g_range : mg "range" = none
  g_reversed : mg "reversed" = none
  g_sorted : mg "sorted" = none
  g_sum : mg "sum" = none
  g_tuple : mg "tuple" = none
  g_zip : mg "zip" = none
  cT : Cls K A.C
  nMany : NoAttr K A.C "many"
  nArms : NoAttr K A.C "arms"
  nPl : NoAttr K A.C "_places"
  mC : mg "Tree" = some (.ref A.C)
  mkC : Mk K A.C A.f_t___init__
  cr : ClX.CRead K A.C (.type "type")
  cof : ClX.CMet K A.C (.type "type") "of" A.po A.f_t_of
  cTM : Cls K A.CM
  mRow : NoAttr K A.CM "row"
  mKept : NoAttr K A.CM "kept"
  mChains : NoAttr K A.CM "chains"
  mCM : mg "Mended" = some (.ref A.CM)
  mkCM : Mk K A.CM A.f_m___init__
  eqcM : EqC K A.CM A.f_m___eq__
  kaM : PySem.W.findIn K (.ref A.CM) "__class__" = some (some (.builtin "object.__class__"))
  knM : PySem.W.specialIn K (.builtin "object.__class__") "__get__" = some (some (.builtin "getset_descriptor.__get__"))
  ktkM : PySem.W.takesIn K (.builtin "object.__class__") = some true
  kmM : PySem.W.mroIn K A.CM (.type "object") = some true
  kiM_int : PySem.W.kitOne K (.type "int") (.ref A.CM) = some false
  kiM_tuple : PySem.W.kitOne K (.type "tuple") (.ref A.CM) = some false
def TT (A : Ad) : List (Addr × Str) := [(A.P_falling_chains, ("falling_chains" : Str) ++ ".<locals>." ++ "<lambda>")]

end Tw

set_option Elab.async false
set_option linter.all false
set_option maxRecDepth 100000
set_option maxHeartbeats 2000000
namespace Tw
open PySem PySem.Spec PyProof.Rows L2
section
variable {P : Program} {w : World} {K : PySem.W.Frag} {mg : Str → Option Value} {base : Heap} {A : Ad}
open LamX (ExtN Tabs TabS)
def keyAt (ks : List Int) (p : Nat) : Int := ks.getD p 0
def upF : Nat → Nat → Nat → List Nat
  | 0, _, p => [p]
  | k + 1, w, p => if p = 0 then [0] else p :: upF k w ((p - 1) / w)
def upL (w p : Nat) : List Nat := upF 13 w p
def wayL (w p : Nat) : List Nat := (upL w p).reverse
def Fal (w : Nat) (ks : List Int) (x y : Nat) : Prop := x ∈ wayL w y ∧ x ≠ y ∧ keyAt ks y < keyAt ks x
def Rise (w : Nat) (ks : List Int) (n : Nat) : Prop := ∀ i, 1 ≤ i → i < n → keyAt ks ((i - 1) / w) ≤ keyAt ks i
instance decFal (w : Nat) (ks : List Int) (x y : Nat) : Decidable (Fal w ks x y) := by unfold Fal; infer_instance
/-- the children as the law looks for them -/
def kidL (n w i : Nat) : List Nat := ((List.range (n - 1)).filter fun j => decide (j / w = i)).map (· + 1)
def kidsN (n w i : Nat) : List Nat := ((List.range n).drop (min (i * w + 1) n)).take (min (i * w + 1 + w) n - min (i * w + 1) n)
theorem kids_same : ∀ n, n < 13 → ∀ w, w < 5 → ∀ i, i < n → 1 ≤ w → kidsN n w i = kidL n w i := by decide +kernel
end
end Tw

set_option Elab.async false
set_option linter.all false
set_option maxRecDepth 100000
set_option maxHeartbeats 2000000
namespace Tw
open PySem PySem.Spec PyProof.Rows L2
section
variable {P : Program} {w : World} {K : PySem.W.Frag} {mg : Str → Option Value} {base : Heap} {A : Ad}
open LamX (ExtN Tabs TabS)
/-! what is shown: Fal decFal Rise keyAt wayL kidsN kidL kids_same -/
def riseL (w : Nat) (ks : List Int) (n m : Nat) : List Bool := (List.range m).flatMap fun i => (kidsN n w i).map fun c => decide (keyAt ks i ≤ keyAt ks c)
theorem riseL_snoc (w : Nat) (ks : List Int) (n m : Nat) : riseL w ks n (m + 1) = riseL w ks n m ++ (kidsN n w m).map fun c => decide (keyAt ks m ≤ keyAt ks c) := by
  unfold riseL
  rw [List.range_succ, List.flatMap_append, List.flatMap_singleton]
theorem kidsN_len {n w : Nat} (hn : n ≤ 12) (i : Nat) : (kidsN n w i).length ≤ 12 := by
  unfold kidsN
  rw [List.length_take, List.length_drop, List.length_range]
  omega
theorem riseL_len {w n : Nat} {ks : List Int} (hn : n ≤ 12) : ∀ m, (riseL w ks n m).length ≤ 12 * m
  | 0 => Nat.le_refl _
  | m + 1 => by
    have ih := riseL_len (w := w) (ks := ks) hn m
    have := kidsN_len (w := w) hn m
    rw [riseL_snoc, List.length_append, List.length_map]
    omega
theorem kidsN_mem {n w i c : Nat} (hw : 1 ≤ w ∧ w ≤ 4) (hn : n ≤ 12) (hi : i < n) : c ∈ kidsN n w i ↔ 1 ≤ c ∧ c < n ∧ (c - 1) / w = i := by
  rw [kids_same n (by omega) w (by omega) i hi hw.1]
  unfold kidL
  rw [List.mem_map]
  refine ⟨fun ⟨j, hj, e⟩ => ?_, fun ⟨h1, h2, h3⟩ => ⟨c - 1, ?_, by omega⟩⟩
  · rw [List.mem_filter, List.mem_range, decide_eq_true_eq] at hj
    subst e
    exact ⟨by omega, by omega, by rw [Nat.add_sub_cancel]; exact hj.2⟩
  · rw [List.mem_filter, List.mem_range, decide_eq_true_eq]
    exact ⟨by omega, h3⟩
theorem riseL_iff {w n : Nat} {ks : List Int} (hw : 1 ≤ w ∧ w ≤ 4) (hn : n ≤ 12) : (riseL w ks n n).all id = true ↔ Rise w ks n := by
  rw [List.all_eq_true]
  refine ⟨fun h i h1 hi => ?_, fun h b hb => ?_⟩
  · have hd : (i - 1) / w ≤ i - 1 := Nat.div_le_self _ _
    have := h (decide (keyAt ks ((i - 1) / w) ≤ keyAt ks i)) (List.mem_flatMap.mpr ⟨(i - 1) / w, List.mem_range.mpr (by omega), List.mem_map.mpr ⟨i, (kidsN_mem hw hn (by omega)).mpr ⟨h1, hi, rfl⟩, rfl⟩⟩)
    exact of_decide_eq_true this
  · obtain ⟨i, hi, hb⟩ := List.mem_flatMap.mp hb
    obtain ⟨c, hc, rfl⟩ := List.mem_map.mp hb
    obtain ⟨c1, c2, c3⟩ := (kidsN_mem hw hn (List.mem_range.mp hi)).mp hc
    have := h c c1 c2
    rw [c3] at this
    exact decide_eq_true this
def stL (w : Nat) (ks : List Int) (C : List Nat) (m : Nat) : List Bool := (List.range m).map fun j => decide (Fal w ks (C.getD j 0) (C.getD (j + 1) 0))
theorem stL_snoc (w : Nat) (ks : List Int) (C : List Nat) (m : Nat) : stL w ks C (m + 1) = stL w ks C m ++ [decide (Fal w ks (C.getD m 0) (C.getD (m + 1) 0))] := by
  unfold stL
  rw [List.range_succ, List.map_append]
  rfl
theorem stL_len (w : Nat) (ks : List Int) (C : List Nat) (m : Nat) : (stL w ks C m).length = m := by
  unfold stL
  rw [List.length_map, List.length_range]
def StepsP (w : Nat) (ks : List Int) (C : List Nat) : Prop := ∀ j, j + 1 < C.length → Fal w ks (C.getD j 0) (C.getD (j + 1) 0)
theorem stL_iff {w : Nat} {ks : List Int} {C : List Nat} : (stL w ks C (C.length - 1)).all id = true ↔ StepsP w ks C := by
  unfold stL
  rw [List.all_eq_true]
  refine ⟨fun h j hj => of_decide_eq_true (h _ (List.mem_map.mpr ⟨j, List.mem_range.mpr (by omega), rfl⟩)), fun h b hb => ?_⟩
  obtain ⟨j, hj, rfl⟩ := List.mem_map.mp hb
  have hj := List.mem_range.mp hj
  exact decide_eq_true (h j (by omega))
theorem getD_at {C : List Nat} {j : Nat} (h : j < C.length) : C.getD j 0 = C[j] := by
  rw [List.getD_eq_getElem?_getD, List.getElem?_eq_getElem h]
  rfl
structure ChP (w n : Nat) (ks : List Int) (CH : List (List Nat)) : Prop where
  pm : CH.flatten.Perm (List.range n)
  ch : ∀ C ∈ CH, C ≠ [] ∧ StepsP w ks C
structure ShowP (w n : Nat) (ks x0 : List Int) (X : List Nat) (CH : List (List Nat)) : Prop where
  rise : Rise w x0 n
  len : CH.length = X.length
  kept : X = (List.range n).filter fun i => decide (keyAt x0 i = keyAt ks i)
  chs : ChP w n ks CH

end
end Tw

set_option Elab.async false
set_option linter.all false
set_option maxRecDepth 100000
set_option maxHeartbeats 2000000
namespace Tw
open PySem PySem.Spec PyProof.Rows L2
section
variable {P : Program} {w : World} {K : PySem.W.Frag} {mg : Str → Option Value} {base : Heap} {A : Ad}
open LamX (ExtN Tabs TabS)
/-- a list or a tuple -/
def Sq (H : Hp) (a : Addr) (xs : List V) : Prop := H a = some (.lst xs) ∨ H a = some (.tup xs)
theorem Sq.same {H H' : Hp} {a : Addr} {xs : List V} (h : Sq H a xs) (s : Same H H') : Sq H' a xs := h.elim (fun e => .inl (s _ _ e)) fun e => .inr (s _ _ e)
/-- the places of a tree -/
def pl (n : Nat) : List V := (List.range n).map fun i => V.int (i : Nat)
/-- its attributes -/
def tf (n w t : Nat) : List (Str × V) := putF "_places" (.ref t) (putF "arms" (.int w) (putF "many" (.int n) []))
/-- a tree of n places and w arms stands at p -/
structure TreeAt (C : Addr) (H : Hp) (p n w : Nat) : Prop where
  ob : ∃ dx t, H p = some (.ins C dx (tf n w t)) ∧ H t = some (.tup (pl n))
  hn : n ≤ 12
  hw : 1 ≤ w ∧ w ≤ 4
theorem b_gi (T : Tx K mg A) : L2.Binds K A.d_t___getitem__ ["self", "place"] [] := T.F_t___getitem__.binds fun _ _ _ _ _ _ us hl => match us, hl with | [_, _], _ => rfl
theorem b_iter (T : Tx K mg A) : L2.Binds K A.d_t___iter__ ["self"] [] := T.F_t___iter__.binds fun _ _ _ _ _ _ us hl => match us, hl with | [_], _ => rfl
theorem b_len (T : Tx K mg A) : L2.Binds K A.d_t___len__ ["self"] [] := T.F_t___len__.binds fun _ _ _ _ _ _ us hl => match us, hl with | [_], _ => rfl
theorem b_sub (T : Tx K mg A) : L2.Binds K A.d_t_subtree ["self", "place"] [] := T.F_t_subtree.binds fun _ _ _ _ _ _ us hl => match us, hl with | [_, _], _ => rfl
theorem cut_from (xs : List V) (k : Nat) : cutV xs (some (k : Int)) none = xs.drop k := by
  unfold cutV
  rw [HT.sIx_none, HT.sIx_nat]
  rcases Nat.le_total k xs.length with h | h
  · rw [Nat.min_eq_left h, List.take_of_length_le (by rw [List.length_drop]; exact Nat.le_refl _)]
  · rw [Nat.min_eq_right h, List.drop_length, List.drop_eq_nil_of_le h, List.take_nil]
theorem ixS {K : PySem.W.Frag} {H : Hp} {a : Addr} {xs : List V} {i : Int} {v : V} {Q : VK} (h : Sq H a xs) (e : atI xs i = some v) (q : Q v H) : rIx K (.ref a) (.int i) H Q :=
  h.elim (fun z => .inl ⟨a, _, i, v, rfl, rfl, SqL.of z, e, q⟩) (fun z => .inr (.inl ⟨a, _, i, v, rfl, rfl, SqT.of z, e, q⟩))
theorem key_at {ks : List Int} {p : Nat} (h : p < ks.length) : atI (ks.map V.int) (p : Int) = some (V.int (keyAt ks p)) := by
  have e : (ks.map V.int)[p]? = some (V.int (keyAt ks p)) := by
    unfold keyAt
    rw [List.getElem?_map, List.getD_eq_getElem?_getD, List.getElem?_eq_getElem h]
    rfl
  exact atI_nat e
abbrev Pr := Int × Str
def keys (ps : List Pr) : List Int := ps.map (·.1)
def vi (l : List Nat) : List V := l.map fun i => V.int (i : Nat)
theorem pl_len (n : Nat) : (pl n).length = n := by unfold pl; rw [List.length_map, List.length_range]
/-- the children of a place, as the program cuts them -/
def kids (n w i : Nat) : List V := cutV (pl n) (some ((i : Int) * (w : Int) + 1)) (some ((i : Int) * (w : Int) + 1 + (w : Int)))
theorem kids_eq (n w i : Nat) : kids n w i = vi (kidsN n w i) := by
  unfold kids cutV kidsN
  rw [pl_len, show ((i : Int) * (w : Int) + 1) = ((i * w + 1 : Nat) : Int) by push_cast; rfl, show (((i * w + 1 : Nat) : Int) + (w : Int)) = ((i * w + 1 + w : Nat) : Int) by push_cast; rfl, HT.sIx_nat, HT.sIx_nat]
  unfold vi pl
  rw [List.map_take, List.map_drop]
theorem mem_vi (i : Nat) (l : List Nat) : inV (V.int (i : Nat)) (vi l) = decide (i ∈ l) := by
  have key : ∀ j : Nat, eqV (V.int (j : Nat)) (V.int (i : Nat)) = decide (j = i) := fun j => by
    show ((j : Int) == (i : Int)) = decide (j = i)
    by_cases h : j = i
    · rw [h, decide_eq_true rfl, beq_self_eq_true]
    · rw [decide_eq_false h]
      exact beq_eq_false_iff_ne.mpr (by omega)
  unfold inV vi
  induction l with
  | nil => rfl
  | cons a l ih =>
    rw [List.map_cons, List.any_cons, ih, key]
    by_cases h : a = i
    · simp [h]
    · simp [h, Ne.symm h]
/-- True just for ints -/
def spIs (K : PySem.W.Frag) : Sp := fun vs H Q _ => ∃ x : V, vs = [x] ∧
  ((∃ i, x = .int i ∧ Q (.bl true) H) ∨ (∃ n b1 b2, TyX K H x (.type n) ∧ kitB n "int" = some b1 ∧ kitB n "bool" = some b2 ∧ (b1 && !b2) = false ∧ Q (.bl false) H))
theorem ok_is (T : Tx K mg A) : FnOk P w K mg base CX0 1 A.f_is_integer A.d_is_integer ["thing"] (spIs K) := by
  refine T.F_is_integer.ok sc_is_integer (fun vs H Q E h => ?_) (fun cdv B outer s H vs Q E hr h => ?_)
  · obtain ⟨x, rfl, _⟩ := h
    rfl
  · obtain ⟨x, rfl, h⟩ := h
    refine ⟨_, pss_one (ps_ret (pe_and (pe_callB call_isi (by rfl) T.g_isinstance (by decide +kernel) (pa_cons (pv 0) (pa_cons (pe_bltn (v := .ty "int") (by rfl) T.g_int (by decide +kernel) rfl) pa_nil)))
      (pe_one (pe_not (pe_callB call_isi (by rfl) T.g_isinstance (by decide +kernel) (pa_cons (pv 0) (pa_cons (pe_bltn (v := .ty "bool") (by rfl) T.g_bool (by decide +kernel) rfl) pa_nil))))))), ?_⟩
    rcases h with ⟨i, rfl, q⟩ | ⟨n, b1, b2, ty, k1, k2, hb, q⟩
    · refine ⟨_, rfl, _, _, .type "int", .type "int", true, rfl, .ty "int", .base (.int i), kit_ty (by decide +kernel), true, rfl, iteT ?_⟩
      exact ⟨_, rfl, _, _, .type "int", .type "bool", false, rfl, .ty "bool", .base (.int i), kit_ty (by decide +kernel), false, rfl, q⟩
    · refine ⟨_, rfl, _, _, .type n, .type "int", b1, rfl, .ty "int", ty, kit_ty k1, b1, rfl, ?_⟩
      cases b1 with
      | false => exact iteF q
      | true =>
        cases b2 with
        | false => cases hb
        | true => exact iteT ⟨_, rfl, _, _, .type n, .type "bool", true, rfl, .ty "bool", ty, kit_ty k2, true, rfl, q⟩
theorem b_is (T : Tx K mg A) : L2.Binds K A.d_is_integer ["thing"] [] := T.F_is_integer.binds fun _ _ _ _ _ _ us hl => match us, hl with | [_], _ => rfl
/-- True just for ints within; other things by their class -/
def spII (K : PySem.W.Frag) : Sp := fun vs H Q _ => ∃ (x : V) (a b : Int), vs = [x, .int a, .int b] ∧
  ((∃ i, x = .int i ∧ Q (.bl (decide (a ≤ i ∧ i ≤ b))) H) ∨ (∃ n b1 b2, TyX K H x (.type n) ∧ kitB n "int" = some b1 ∧ kitB n "bool" = some b2 ∧ (b1 && !b2) = false ∧ Q (.bl false) H))
theorem ok_ii (T : Tx K mg A) : FnOk P w K mg base CX0 2 A.f_is_integer_from A.d_is_integer_from ["thing", "least", "greatest"] (spII K) := by
  refine T.F_is_integer_from.ok sc_is_integer_from (fun vs H Q E h => ?_) (fun cdv B outer s H vs Q E hr h => ?_)
  · obtain ⟨x, a, b, rfl, _⟩ := h
    rfl
  · obtain ⟨x, a, b, rfl, h⟩ := h
    refine ⟨_, pss_one (ps_ret (pe_and (pe_call (ok_is T) hr (by rfl) T.m_is_integer T.F_is_integer.kp (b_is T) .nil pass0 (pa_cons (pv 0) pa_nil))
        (pe_one (pe_chain op_le op_le (pv 1) (pv 0) (pv 2))))), ?_⟩
    rcases h with ⟨i, rfl, q⟩ | h
    · refine ⟨_, rfl, _, rfl, .inl ⟨i, rfl, true, rfl, iteT ?_⟩⟩
      refine ⟨_, rfl, _, rfl, _, _, rfl, rfl, _, rfl, ?_⟩
      by_cases h1 : a ≤ i
      · rw [decide_eq_true h1]
        refine iteT ⟨_, rfl, _, _, rfl, rfl, ?_⟩
        have e : decide (a ≤ i ∧ i ≤ b) = decide (i ≤ b) := by simp [h1]
        rw [e] at q
        exact q
      · rw [decide_eq_false h1]
        have e : decide (a ≤ i ∧ i ≤ b) = false := by simp [h1]
        rw [e] at q
        exact iteF q
    · obtain ⟨n, b1, b2, ty, k1, k2, hb, q⟩ := h
      exact ⟨_, rfl, _, rfl, .inr ⟨n, b1, b2, ty, k1, k2, hb, false, rfl, iteF q⟩⟩
theorem b_ii (T : Tx K mg A) : L2.Binds K A.d_is_integer_from ["thing", "least", "greatest"] [] := T.F_is_integer_from.binds fun _ _ _ _ _ _ us hl => match us, hl with | [_, _, _], _ => rfl
def spCp : Sp := fun vs H Q _ => ∃ i n : Int, vs = [.int i, .int n] ∧ (0 ≤ i ∧ i < n) ∧ Q .non H
theorem ok_cp (T : Tx K mg A) : FnOk P w K mg base CX0 3 A.f_check_place A.d_check_place ["place", "many"] spCp := by
  refine T.F_check_place.ok sc_check_place (fun vs H Q E h => ?_) (fun cdv B outer s H vs Q E hr h => ?_)
  · obtain ⟨i, n, rfl, _⟩ := h
    rfl
  · obtain ⟨i, n, rfl, hi, q⟩ := h
    refine ⟨_, pss_one (ps_if (pt_not (pt_val (pe_call (ok_ii T) hr (by rfl) T.m_is_integer_from T.F_is_integer_from.kp (b_ii T) .nil pass0
      (pa_cons (pv 0) (pa_cons pe_int (pa_cons (pe_op op_sub (pv 1) pe_int) pa_nil)))))) (pss_one ps_never) pss_nil), ?_⟩
    refine ⟨_, rfl, _, rfl, _, _, rfl, rfl, _, _, _, rfl, .inl ⟨i, rfl, _, rfl, ?_⟩⟩
    rw [decide_eq_true (show 0 ≤ i ∧ i ≤ n - 1 by omega)]
    exact iteF q
theorem b_cp (T : Tx K mg A) : L2.Binds K A.d_check_place ["place", "many"] [] := T.F_check_place.binds fun _ _ _ _ _ _ us hl => match us, hl with | [_, _], _ => rfl
theorem n1 : ¬ (("many" : Str) = "arms") := by decide +kernel
theorem n2 : ¬ (("many" : Str) = "_places") := by decide +kernel
theorem tf_many (n w t : Nat) : (tf n w t).lookup ("many" : Str) = some (.int n) := by
  unfold tf
  rw [lookup_putF, if_neg n2, lookup_putF, if_neg n1, lookup_putF, if_pos rfl]
theorem n3 : ¬ (("arms" : Str) = "_places") := by decide +kernel
theorem tf_arms (n w t : Nat) : (tf n w t).lookup ("arms" : Str) = some (.int w) := by
  unfold tf
  rw [lookup_putF, if_neg n3, lookup_putF, if_pos rfl]
theorem tf_pl (n w t : Nat) : (tf n w t).lookup ("_places" : Str) = some (.ref t) := by
  unfold tf
  rw [lookup_putF, if_pos rfl]
def spGi (C : Addr) : Sp := fun vs H Q _ => ∃ (p n w i : Nat), vs = [.ref p, .int i] ∧ TreeAt C H p n w ∧ i < n ∧ ∀ H' q, Same H H' → H' q = some (.tup (kids n w i)) → Q (.ref q) H'
theorem ok_gi (T : Tx K mg A) : FnOk P w K mg base CX0 4 A.f_t___getitem__ A.d_t___getitem__ ["self", "place"] (spGi A.C) := by
  refine T.F_t___getitem__.ok sc_t___getitem__ (fun vs H Q E h => ?_) (fun cdv B outer s H vs Q E hr h => ?_)
  · obtain ⟨p, n, w, i, rfl, _⟩ := h
    rfl
  · obtain ⟨p, n, w, i, rfl, t, hi, q⟩ := h
    obtain ⟨dx, l, h1, h2⟩ := t.ob
    refine ⟨_, pss_cons (ps_expr (pe_call (ok_cp T) hr (by rfl) T.m_check_place T.F_check_place.kp (b_cp T) .nil pass0 (pa_cons (pv 1) (pa_cons (pe_fld (pv 0) rfl) pa_nil))))
      (pss_cons (ps_set (i := 2) sc_t___getitem__.nd rfl (Or.inl rfl) (pe_op op_add (pe_op op_mul (pv 1) (pe_fld (pv 0) rfl)) pe_int))
      (pss_one (ps_ret (pe_slice sl_tup (pe_fld (pv 0) rfl) (po_some (pv 2)) (po_some (pe_op op_add (pv 2) (pe_fld (pv 0) rfl))))))), ?_⟩
    refine ⟨_, rfl, _, rfl, p, A.C, dx, _, _, rfl, h1, T.cT, T.nMany, tf_many _ _ _, _, _, rfl, ⟨by omega, by omega⟩, ?_⟩
    refine ⟨_, rfl, _, rfl, p, A.C, dx, _, _, rfl, h1, T.cT, T.nArms, tf_arms _ _ _, _, _, rfl, rfl, .inl ⟨by have := t.hn; omega, by have := t.hn; omega⟩, _, _, rfl, rfl, ?_⟩
    refine ⟨_, rfl, p, A.C, dx, _, _, rfl, h1, T.cT, T.nPl, tf_pl _ _ _, ?_⟩
    refine ⟨_, rfl, _, rfl, _, rfl, _, rfl, p, A.C, dx, _, _, rfl, h1, T.cT, T.nArms, tf_arms _ _ _, _, _, rfl, rfl, _, rfl, ?_⟩
    refine ⟨l, pl n, rfl, SqT.of h2, fun z => ?_, fun r hr0 => q _ r (Same.up hr0) upd_same⟩
    have z1 := z.1
    rw [pl_len, show ((i : Int) * (w : Int) + 1) = ((i * w + 1 : Nat) : Int) by push_cast; rfl, HT.sIx_nat] at z1
    omega
theorem ok_iter (T : Tx K mg A) : FnIt P w K mg base 2 A.f_t___iter__ A.d_t___iter__ ["self"] (spIter K A.C "_places") := by
  refine fnIt_of T.F_t___iter__ sc_t___iter__ (fun cdv B outer s H vs Q hr h => ?_)
  obtain ⟨a, dx, fs, t, zs, rfl, ha, hf, ht, q⟩ := h
  refine ⟨_, pss_one (ps_ret (pe_callB call_iterT (by rfl) T.g_iter (by decide +kernel) (pa_cons (pe_fld (pv 0) rfl) pa_nil))), ?_⟩
  exact ⟨_, rfl, a, A.C, dx, _, _, rfl, ha, T.cT, T.nPl, hf, t, zs, rfl, ht, q⟩
def spLen (C : Addr) : Sp := fun vs H Q _ => ∃ (p n w : Nat), vs = [.ref p] ∧ TreeAt C H p n w ∧ Q (.int n) H
theorem ok_len (T : Tx K mg A) : FnOk P w K mg base CX0 2 A.f_t___len__ A.d_t___len__ ["self"] (spLen A.C) := by
  refine T.F_t___len__.ok sc_t___len__ (fun vs H Q E h => ?_) (fun cdv B outer s H vs Q E hr h => ?_)
  · obtain ⟨p, n, w, rfl, _⟩ := h
    rfl
  · obtain ⟨p, n, w, rfl, t, q⟩ := h
    obtain ⟨dx, l, h1, h2⟩ := t.ob
    refine ⟨_, pss_one (ps_ret (pe_callB call_len_seq (by rfl) T.g_len PySem.boot_len (pa_cons (pe_fld (pv 0) rfl) pa_nil))), ?_⟩
    refine ⟨_, rfl, p, A.C, dx, _, _, rfl, h1, T.cT, T.nPl, tf_pl _ _ _, l, _, rfl, .inr (SqT.of h2), ?_⟩
    rw [pl_len]
    exact q
theorem b_way (T : Tx K mg A) : L2.Binds K A.d_t_way_to ["self", "place"] [] := T.F_t_way_to.binds fun _ _ _ _ _ _ us hl => match us, hl with | [_, _], _ => rfl
theorem tf_no (n w t : Nat) {m : Str} (h1 : ¬ m = "many") (h2 : ¬ m = "arms") (h3 : ¬ m = "_places") : (tf n w t).lookup m = none := by
  unfold tf
  rw [lookup_putF, if_neg h3, lookup_putF, if_neg h2, lookup_putF, if_neg h1]
  rfl
theorem TreeAt.same {C : Addr} {H H' : Hp} {p n w : Nat} (h : TreeAt C H p n w) (s : Same H H') : TreeAt C H' p n w :=
  ⟨let ⟨dx, t, a, b⟩ := h.ob; ⟨dx, t, s _ _ a, s _ _ b⟩, h.hn, h.hw⟩
theorem up_eq : ∀ w, w < 5 → ∀ p, p < 13 → 1 ≤ w → upL w p = if p = 0 then [0] else p :: upL w ((p - 1) / w) := by decide +kernel
theorem vi_len (l : List Nat) : (vi l).length = l.length := by unfold vi; rw [List.length_map]
theorem b_par (T : Tx K mg A) : L2.Binds K A.d_t_parent ["self", "place"] [] := T.F_t_parent.binds fun _ _ _ _ _ _ us hl => match us, hl with | [_, _], _ => rfl
theorem up_len : ∀ w, w < 5 → ∀ p, p < 13 → 1 ≤ w → (upL w p).length ≤ 13 := by decide +kernel
theorem vi_app (a b : List Nat) : vi (a ++ b) = vi a ++ vi b := by unfold vi; rw [List.map_append]
theorem vi_rev (a : List Nat) : (vi a).reverse = vi a.reverse := by unfold vi; rw [List.map_reverse]
/-- the parent as the program says it -/
def parV (w p : Nat) : V := if p = 0 then .non else .int ((p - 1) / w : Nat)
def spPar (C : Addr) : Sp := fun vs H Q _ => ∃ (p n w i : Nat), vs = [.ref p, .int i] ∧ TreeAt C H p n w ∧ i < n ∧ Q (parV w i) H
theorem ok_par (T : Tx K mg A) : FnOk P w K mg base CX0 4 A.f_t_parent A.d_t_parent ["self", "place"] (spPar A.C) := by
  refine T.F_t_parent.ok sc_t_parent (fun vs H Q E h => ?_) (fun cdv B outer s H vs Q E hr h => ?_)
  · obtain ⟨p, n, w, i, rfl, _⟩ := h
    rfl
  · obtain ⟨p, n, w, i, rfl, t, hi, q⟩ := h
    obtain ⟨dx, l, h1, h2⟩ := t.ob
    refine ⟨_, pss_cons (ps_expr (pe_call (ok_cp T) hr (by rfl) T.m_check_place T.F_check_place.kp (b_cp T) .nil pass0 (pa_cons (pv 1) (pa_cons (pe_fld (pv 0) rfl) pa_nil))))
      (pss_cons (ps_if (pt_cmpR op_eq (pv 1) pe_int (nomark _)) (pss_one (ps_ret pe_non)) pss_nil)
      (pss_one (ps_ret (pe_op op_fdivN (pe_op op_sub (pv 1) pe_int) (pe_fld (pv 0) rfl))))), ?_⟩
    refine ⟨_, rfl, _, rfl, p, A.C, dx, _, _, rfl, h1, T.cT, T.nMany, tf_many _ _ _, _, _, rfl, ⟨by omega, by omega⟩, ?_⟩
    refine ⟨_, rfl, rfl, _, rfl, ?_⟩
    by_cases h0 : i = 0
    · rw [decide_eq_true (show V.int (i : Nat) = V.int 0 by rw [h0]; rfl)]
      refine iteT ?_
      unfold parV at q
      rw [if_pos h0] at q
      exact q
    · rw [decide_eq_false (show ¬ V.int (i : Nat) = V.int 0 by intro z; injection z with z; omega)]
      refine iteF ?_
      refine ⟨_, rfl, _, _, rfl, rfl, _, rfl, p, A.C, dx, _, _, rfl, h1, T.cT, T.nArms, tf_arms _ _ _, _, _, rfl, rfl, ⟨by have := t.hw; omega, by have := t.hw; omega⟩, ?_⟩
      unfold parV at q
      rw [if_neg h0] at q
      have e : Int.fdiv ((i : Int) - 1) (w : Int) = ((i - 1) / w : Nat) := by
        rw [Int.fdiv_eq_ediv_of_nonneg _ (by omega), show ((i : Int) - 1) = ((i - 1 : Nat) : Int) by omega]
        rfl
      show Q (V.int (Int.fdiv ((i : Int) - 1) (w : Int))) H
      rw [e]
      exact q
/-- a number that falls while a place goes up -/
def muV : Option (Option V) → Nat
  | some (some (V.int z)) => z.toNat + 1
  | _ => 0
def spWay (C : Addr) : Sp := fun vs H Q _ => ∃ (p n w i : Nat), vs = [.ref p, .int i] ∧ TreeAt C H p n w ∧ i < n ∧ ∀ H' q, Same H H' → H q = none → H' q = some (.tup (vi (wayL w i))) → Q (.ref q) H'
theorem ok_way (T : Tx K mg A) : FnOk P w K mg base CX0 5 A.f_t_way_to A.d_t_way_to ["self", "place"] (spWay A.C) := by
  refine T.F_t_way_to.ok sc_t_way_to (fun vs H Q E h => ?_) (fun cdv B outer s H vs Q E hr h => ?_)
  · obtain ⟨p, n, w, i, rfl, _⟩ := h
    rfl
  · obtain ⟨p, n, w, i, rfl, t, hi, q⟩ := h
    refine ⟨_, pss_cons (ps_set (i := 2) sc_t_way_to.nd rfl (Or.inl rfl) (pe_lst (pa_cons (pv 1) pa_nil)))
      (pss_cons (ps_set (i := 3) sc_t_way_to.nd rfl (Or.inl rfl) (pe_meth (pv 0) T.cT T.M_t_parent (ok_par T) hr (b_par T) .nil pass0 (pa_cons (pv 1) pa_nil)))
      (pss_cons (ps_while PassesOwn.never (pt_cmpR op_notN (pv 3) pe_non (nomark _))
        (pss_cons (ps_expr (pe_bm PySem.F.plainAttrs_list PySem.F.slot_list_append PySem.F.type_list_append mt_append (pv 2) (pa_cons (pv 3) pa_nil)))
        (pss_one (ps_set (i := 3) sc_t_way_to.nd rfl (Or.inl rfl) (pe_meth (pv 0) T.cT T.M_t_parent (ok_par T) hr (b_par T) .nil pass0 (pa_cons (pv 3) pa_nil))))))
      (pss_one (ps_ret (pe_callTy call_tuple_of (by rfl) T.g_tuple (by decide +kernel) (pa_cons (pe_revL (pv 2)) pa_nil)))))), ?_⟩
    obtain ⟨dx, l, h1, h2⟩ := t.ob
    have noP : (tf n w l).lookup ("parent" : Str) = none := tf_no _ _ _ (by decide +kernel) (by decide +kernel) (by decide +kernel)
    refine ⟨_, rfl, by show 1 ≤ sizeLine; decide, fun d hd => ?_⟩
    have s1 : Same H (upd H d (.lst [V.int (i : Nat)])) := Same.up hd
    refine ⟨_, rfl, p, dx, _, rfl, s1 _ _ h1, noP, _, rfl, p, n, w, i, rfl, t.same s1, hi, ?_⟩
    refine while_by (fun σ H' => ∃ (c : Nat) (acc : List Nat), σ = [some (.ref p), some (.int i), some (.ref d), some (parV w c)] ∧ c < n ∧ Acc H d (vi (acc ++ [c])) H' ∧ acc ++ upL w c = upL w i ∧ acc.length ≤ 12)
      (fun σ _ => muV σ[3]?) ⟨i, [], rfl, hi, ⟨s1, hd, upd_same⟩, rfl, Nat.zero_le _⟩ ?_ ?_
    · rintro σ H' ⟨c, acc, rfl, hc, ac, ea, hl⟩
      have hn := t.hn
      have hw := t.hw
      have eu := up_eq w (by omega) c (by omega) hw.1
      refine ⟨_, rfl, rfl, _, rfl, ?_⟩
      by_cases h0 : c = 0
      · have ev : parV w c = V.non := by unfold parV; rw [if_pos h0]
        rw [ev, decide_eq_true (rfl : V.non = V.non)]
        refine iteF ?_
        rw [if_pos h0] at eu
        refine ⟨_, rfl, d, _, rfl, SqL.of ac.a, fun r hr0 => ⟨r, _, rfl, .inl ⟨SqL.of upd_same, fun u hu => q _ u (ac.s.trans ((Same.up hr0).trans (Same.up hu))) (ac.s.free ((Same.up hr0).free hu)) ?_⟩⟩⟩
        unfold wayL
        rw [upd_same, vi_rev, ← ea, eu, h0]
      · have ev : parV w c = V.int ((c - 1) / w : Nat) := by unfold parV; rw [if_neg h0]
        rw [ev, decide_eq_false (show ¬ V.int ((c - 1) / w : Nat) = V.non from fun z => nomatch z)]
        refine iteT ?_
        rw [if_neg h0] at eu
        have hlt : (c - 1) / w < c := Nat.lt_of_le_of_lt (Nat.div_le_self _ _) (by omega)
        have hL : acc.length + 1 + (upL w ((c - 1) / w)).length = (upL w i).length := by
          rw [← ea, eu, List.length_append, List.length_cons]
          omega
        have hL2 := up_len w (by omega) i (by omega) hw.1
        have hL3 := up_eq w (by omega) ((c - 1) / w) (by omega) hw.1
        have hL4 : 1 ≤ (upL w ((c - 1) / w)).length := by
          rw [hL3]
          split
          · exact Nat.le_refl _
          · rw [List.length_cons]; omega
        refine ⟨_, rfl, .inl ⟨rfl, _, SqL.of ac.a⟩, _, rfl, d, _, _, rfl, rfl, ac.a, small1000 (by rw [vi_len, List.length_append, List.length_singleton]; omega), ?_⟩
        have e2 : vi (acc ++ [c]) ++ [V.int ((c - 1) / w : Nat)] = vi (acc ++ [c] ++ [(c - 1) / w]) := by rw [vi_app (acc ++ [c])]; rfl
        rw [e2]
        have ac2 : Acc H d (vi (acc ++ [c] ++ [(c - 1) / w])) (upd H' d (.lst (vi (acc ++ [c] ++ [(c - 1) / w])))) := ac.push
        refine ⟨_, rfl, p, dx, _, rfl, ac2.s _ _ h1, noP, _, rfl, p, n, w, (c - 1) / w, rfl, t.same ac2.s, by omega, ?_⟩
        refine ⟨⟨(c - 1) / w, acc ++ [c], rfl, by omega, ac2, ?_, by rw [List.length_append, List.length_singleton]; omega⟩, ?_⟩
        · rw [← ea, eu, List.append_assoc]
          rfl
        · show muV (some (some (parV w ((c - 1) / w)))) < muV (some (some (V.int ((c - 1) / w : Nat))))
          unfold parV
          split
          · show 0 < _
            exact Nat.succ_pos _
          · rename_i h9
            show (((((c - 1) / w - 1) / w : Nat) : Int)).toNat + 1 < ((((c - 1) / w : Nat) : Int)).toNat + 1
            rw [Int.toNat_natCast, Int.toNat_natCast]
            exact Nat.succ_lt_succ (Nat.lt_of_le_of_lt (Nat.div_le_self _ _) (Nat.sub_lt (Nat.pos_of_ne_zero h9) Nat.one_pos))
    · rintro σ' H1 Q1 Q2 mono ⟨v, hv, e1, b1, e2, z⟩
      exact ⟨v, hv, e1, b1, e2, mono _ _ z⟩
theorem vi_flat (l : List Nat) : (vi l).all flatV = true := by
  unfold vi
  rw [List.all_map]
  exact List.all_eq_true.mpr fun _ _ => rfl
/-- the places of a subtree -/
def subL (n w i : Nat) : List Nat := (List.range n).filter fun j => decide (i ∈ wayL w j)
theorem sub_pick (n w i : Nat) : vi (subL n w i) = (List.range n).filterMap fun j => if i ∈ wayL w j then some (V.int (j : Nat)) else none := by
  unfold vi subL
  induction List.range n with
  | nil => rfl
  | cons a l ih =>
    by_cases h : i ∈ wayL w a
    · rw [List.filter_cons_of_pos (by simp [h]), List.map_cons, ih, List.filterMap_cons, if_pos h]
    · rw [List.filter_cons_of_neg (by simp [h]), ih, List.filterMap_cons, if_neg h]
def spSub (C : Addr) : Sp := fun vs H Q _ => ∃ (p n w i : Nat), vs = [.ref p, .int i] ∧ TreeAt C H p n w ∧ i < n ∧ ∀ H' q, Same H H' → H q = none → H' q = some (.tup (vi (subL n w i))) → Q (.ref q) H'
theorem ok_sub (T : Tx K mg A) : FnOk P w K mg base CX0 6 A.f_t_subtree A.d_t_subtree ["self", "place"] (spSub A.C) := by
  refine T.F_t_subtree.ok sc_t_subtree (fun vs H Q E h => ?_) (fun cdv B outer s H vs Q E hr h => ?_)
  · obtain ⟨p, n, w, i, rfl, _⟩ := h
    rfl
  · obtain ⟨p, n, w, i, rfl, t, hi, q⟩ := h
    obtain ⟨dx, l, h1, h2⟩ := t.ob
    have noW : (tf n w l).lookup ("way_to" : Str) = none := tf_no _ _ _ (by decide +kernel) (by decide +kernel) (by decide +kernel)
    refine ⟨_, pss_cons (ps_expr (pe_call (ok_cp T) (hr.mono (by decide)) (by rfl) T.m_check_place T.F_check_place.kp (b_cp T) .nil pass0 (pa_cons (pv 1) (pa_cons (pe_fld (pv 0) rfl) pa_nil))))
      (pss_one (ps_ret (pe_callTy call_tuple_of (by rfl) T.g_tuple (by decide +kernel) (pa_cons
        (pe_lc (own := [("below", 2)]) (g := gName 2) rfl sc_t_subtree.nd (pi_tup (pe_fld (pv 0) rfl)) (blkOk_by (own := [("below", 2)]) (N := ["self", "place", "below"]) (sc := defScope s_t_subtree) (by decide +kernel)) (fun _ _ _ _ _ => pg_name (i := 2) sc_t_subtree.nd rfl (Or.inl rfl))
          (fun _ _ _ _ _ => pts_one (pt_cmpR (r := L2.rIn K false) op_in_seq (pv 1) (pe_meth (pv 0) T.cT T.M_t_way_to (ok_way T) hr (b_way T) .nil pass0 (pa_cons (pv 2) pa_nil)) (by rfl))) (fun _ _ _ _ _ => pv 2)) pa_nil)))), ?_⟩
    refine ⟨_, rfl, _, rfl, p, A.C, dx, _, _, rfl, h1, T.cT, T.nMany, tf_many _ _ _, _, _, rfl, ⟨by omega, by omega⟩, ?_⟩
    refine ⟨_, rfl, p, A.C, dx, _, _, rfl, h1, T.cT, T.nPl, tf_pl _ _ _, l, rfl, ⟨_, SqT.of h2⟩, fun D hD => ?_⟩
    refine lc_it (walk_tup (xs := pl n)) (PickI H D (List.range n) fun j => if i ∈ wayL w j then some (V.int (j : Nat)) else none) (pick_start hD) (fun k H' _ h => SqT.of (h.s _ _ h2)) ?_ ?_
    · rintro k x H2 H3 hk pk ⟨rfl, ex⟩
      obtain ⟨hk', rfl⟩ := map_at ex
      rw [List.getElem_range]
      rw [List.length_range] at hk'
      refine ⟨rfl, _, rfl, _, rfl, p, dx, _, rfl, pk.s _ _ h1, noW, _, rfl, p, n, w, k, rfl, t.same pk.s, hk', fun H4 r s4 r0 hr4 => ?_⟩
      refine ⟨r, _, rfl, .inr (SqT.of hr4), rfl, vi_flat _, _, rfl, ?_⟩
      show if (inV (V.int (i : Nat)) (vi (wayL w k))) = true then _ else _
      rw [mem_vi]
      by_cases hm : i ∈ wayL w k
      · rw [decide_eq_true hm]
        exact iteT ⟨_, rfl, pick_yes (by rw [List.length_range]; exact hk') (by rw [List.length_range]; have := t.hn; omega) (by rw [List.getElem_range, if_pos hm]) s4 pk⟩
      · rw [decide_eq_false hm]
        exact iteF (pick_no (by rw [List.length_range]; exact hk') (by rw [List.getElem_range, if_neg hm]) s4 pk)
    · intro H2 pk
      have ac := pick_end (by rw [pl_len, List.length_range]) pk
      refine ⟨D, _, rfl, .inl ⟨SqL.of ac.a, fun r hr0 => q _ r (ac.s.trans (Same.up hr0)) (ac.s.free hr0) ?_⟩⟩
      rw [upd_same, ← sub_pick]
theorem plAt {n i : Nat} {x : V} (h : (pl n)[i]? = some x) : i < n ∧ x = V.int (i : Nat) := by
  unfold pl at h
  rw [List.getElem?_map] at h
  by_cases hi : i < n
  · rw [List.getElem?_range hi] at h
    exact ⟨hi, (Option.some.inj h).symm⟩
  · rw [List.getElem?_eq_none (by rw [List.length_range]; omega)] at h
    cases h
theorem pl_at {n i : Nat} {x : V} (h : (pl n)[i]? = some x) : i < n ∧ x = V.int (i : Nat) := by
  unfold pl at h
  rw [List.getElem?_map] at h
  by_cases hi : i < n
  · rw [List.getElem?_range hi] at h
    exact ⟨hi, (Option.some.inj h).symm⟩
  · rw [List.getElem?_eq_none (by rw [List.length_range]; omega)] at h
    cases h
theorem q3 : ¬ (("stops" : Str) = "changes") := by decide +kernel
abbrev rLn (K : PySem.W.Frag) : List V → Hp → VK → Prop := fun xs H Q => ∃ p ys, xs = [.ref p] ∧ (SqL K H p ys ∨ SqT K H p ys) ∧ Q (.int ys.length) H
theorem slTup {K : PySem.W.Frag} {H : Hp} {t : Addr} {xs : List V} {lo hi : Option Int} {Q : VK} (h : H t = some (.tup xs)) (q : ∀ (H' : Hp) (p : Addr), Same H H' → H' p = some (.tup (cutV xs lo hi)) → Q (.ref p) H') : rSlA K (.ref t) lo hi H Q :=
  ⟨t, xs, rfl, SqT.of h, fun e => q H t (Same.refl _) (by rw [SqT.whole e]; exact h), fun _ p np => q _ p (Same.up np) upd_same⟩
theorem sub_mem {n w p x : Nat} : x ∈ subL n w p ↔ x < n ∧ p ∈ wayL w x := by
  unfold subL
  rw [List.mem_filter, List.mem_range, decide_eq_true_eq]
theorem viAt {l : List Nat} {i : Nat} {x : V} (h : (vi l)[i]? = some x) : ∃ hi : i < l.length, x = V.int (l[i] : Nat) := by
  unfold vi at h
  rw [List.getElem?_map] at h
  obtain ⟨a, ha, rfl⟩ := Option.map_eq_some_iff.mp h
  obtain ⟨hi, e⟩ := List.getElem?_eq_some_iff.mp ha
  exact ⟨hi, by rw [e]⟩
/-- a walk, whatever its turns do -/
theorem walk_gen {J : It} {n : Nat} {G : Hp → Prop} {Y : Nat → Hp → V → Hp → Prop} (w : Walk J n G Y) {Bd : (Hp → Prop) → V → Hp → Prop} {Qd : Hp → Prop} {H0 : Hp} (Pv : Nat → Hp → Prop) (h0 : Pv 0 H0) (hG : ∀ i H, i ≤ n → Pv i H → G H)
    (hs : ∀ i x H H', i < n → Pv i H → Y i H x H' → Bd (Pv (i + 1)) x H') (hd : ∀ H, Pv n H → Qd H) :
    ∃ W : Nat → Nat → Hp → Prop, (∃ m, W 0 m H0) ∧ ∀ i m H, W i m H →
      (J.stop i H ∧ Qd H) ∨ (J.go i H ∧ ∃ Nx : Hp → Prop, (∀ H', Nx H' → ∃ m', m' < m ∧ W (i + 1) m' H') ∧ ∀ x H', J.yld i H x H' → Bd Nx x H') := by
  refine ⟨fun i m H => m = n - i ∧ i ≤ n ∧ Pv i H, ⟨n, (Nat.sub_zero n).symm, Nat.zero_le _, h0⟩, ?_⟩
  rintro i m H ⟨rfl, hi, p⟩
  have q := hG i H hi p
  by_cases hlt : i < n
  · exact .inr ⟨w.goes i H hlt q, Pv (i + 1), fun H' p' => ⟨n - (i + 1), by omega, rfl, hlt, p'⟩, fun x H' y => hs i x H H' hlt p (w.yields i H x H' hlt q y)⟩
  · obtain rfl : i = n := by omega
    exact .inl ⟨w.stops H q, hd H p⟩
end
end Tw

set_option Elab.async false
set_option linter.all false
set_option maxRecDepth 100000
set_option maxHeartbeats 2000000
namespace Tw
open PySem PySem.Spec PyProof.Rows L2
section
variable {P : Program} {w : World} {K : PySem.W.Frag} {mg : Str → Option Value} {base : Heap} {A : Ad}
open LamX (ExtN Tabs TabS)
def zI (X : List Nat) : List Int := X.map fun (x : Nat) => ((x : Nat) : Int)
theorem zI_vi (X : List Nat) : (zI X).map V.int = vi X := by
  unfold zI vi
  rw [List.map_map]
  rfl
theorem up_le : ∀ w, w < 5 → ∀ p, p < 13 → 1 ≤ w → ∀ q ∈ wayL w p, q ≤ p := by decide +kernel
theorem up_trans0 : ∀ w, w < 5 → ∀ y, y < 13 → 1 ≤ w → ((wayL w y).all fun x => (wayL w x).all fun p => decide (p ∈ wayL w y)) = true := by decide +kernel
theorem up_trans (w : Nat) (h5 : w < 5) (y : Nat) (hy : y < 13) (h1 : 1 ≤ w) (x : Nat) (hx : x ∈ wayL w y) (p : Nat) (hp : p ∈ wayL w x) : p ∈ wayL w y :=
  of_decide_eq_true (List.all_eq_true.mp (List.all_eq_true.mp (up_trans0 w h5 y hy h1) x hx) p hp)
theorem Fal.trans {w : Nat} {ks : List Int} {x y z : Nat} (hw : 1 ≤ w ∧ w ≤ 4) (hz : z ≤ 12) (a : Fal w ks x y) (b : Fal w ks y z) : Fal w ks x z := by
  have h1 := up_le w (by omega) z (by omega) hw.1 y b.1
  have h2 := up_le w (by omega) y (by omega) hw.1 x a.1
  refine ⟨up_trans w (by omega) z (by omega) hw.1 y b.1 x a.1, fun e => ?_, ?_⟩
  · have := a.2.1
    omega
  · have := a.2.2
    have := b.2.2
    omega
end
end Tw

set_option Elab.async false
set_option linter.all false
set_option maxRecDepth 100000
set_option maxHeartbeats 2000000
namespace Tw
open PySem PySem.Spec PyProof.Rows L2
section
variable {P : Program} {w : World} {K : PySem.W.Frag} {mg : Str → Option Value} {base : Heap} {A : Ad}
open LamX (ExtN Tabs TabS)
/-! rising, whatever the keys: TreeAt spGi ok_gi ok_iter ok_len ok_sub spSub tf_pl tf_no pl_at plAt pl_len walk_tup walk_list Sq Sq.same key_at keyAt ixS vi vi_len viAt Acc Acc.start Acc.push Acc.same sizeLine_eq b_gi b_iter b_len b_sub kids_eq TT slTup cut_from zI zI_vi Fal mem_vi vi_flat sub_mem -/
def spRisG (C : Addr) : Sp := fun vs H Q _ => ∃ (r x n w : Nat) (ks : List Int), vs = [.ref r, .ref x] ∧ TreeAt C H x n w ∧ Sq H r (ks.map V.int) ∧ ks.length = n ∧ n ≤ 12 ∧
  ∀ (H' : Hp) (b : Bool), Same H H' → (b = true ↔ Rise w ks n) → Q (.bl b) H'
theorem ok_risG (T : Tx K mg A) : FnOk P w K mg base CX0 8 A.f_is_rising A.d_is_rising ["keys", "tree"] (spRisG A.C) := by
  refine T.F_is_rising.ok sc_is_rising (fun vs H Q E h => ?_) (fun cdv B outer s H vs Q E hr h => ?_)
  · obtain ⟨r, x, n, w, ks, rfl, _⟩ := h
    rfl
  · obtain ⟨r, x, n, w1, ks, rfl, ta, hrow, hkl, hn, q⟩ := h
    have nd := sc_is_rising.nd
    have hw := ta.hw
    obtain ⟨dx, l, g1, g2⟩ := id ta.ob
    refine ⟨_, PSs.nox (pss_one (ps_ret (pe_and (pe_cmpR op_eq (pe_callB (r := rLn K) call_len_seq (by rfl) T.g_len PySem.boot_len (pa_cons (pv 0) pa_nil)) (pe_callB (call_len_own T.D_t___len__ (ok_len T) (hr.mono (by decide)) (b_len T) pass0) (by rfl) T.g_len PySem.boot_len (pa_cons (pv 1) pa_nil)) (nomark _)) (pe_one (pe_callB (cr_all rfl) (by rfl) T.g_all (by decide +kernel) (pa_cons (pe_lc2 (own := [("place", 2), ("child", 3)]) (vs1 := [3]) (g := gName 2) (g1 := gName 3) (tt := tYes) (tt1 := tYes) (wi1 := iTup K (tGi A.C (spGi A.C) E0 (tVar 1) (tVar 2))) rfl nd (pi_own T.D_t___iter__ (ok_iter T) (hr.mono (by decide)) (b_iter T) (pv 1)) (blkOk_by (own := [("place", 2), ("child", 3)]) (N := ["keys", "tree", "place", "child"]) (sc := defScope s_is_rising) (by decide +kernel)) (by decide) (fun _ _ _ _ _ => pg_name (i := 2) nd rfl (Or.inl rfl)) (fun _ _ _ _ _ => pts_nil) (fun _ _ _ _ _ => pi_tupK (K := K) rfl (pe_gi T.D_t___getitem__ (ok_gi T) (hr.mono (by decide)) (b_gi T) pass0 (pv 1) (pv 2))) (fun _ _ _ _ _ => pg_name (i := 3) nd rfl (Or.inl rfl)) (fun _ _ _ _ _ => pts_nil) (fun _ _ _ _ _ => (pe_cmpR op_le (pe_ix (r := rIx K) ix_seq (pv 0) (pv 2) (fun _ _ => rfl)) (pe_ix (r := rIx K) ix_seq (pv 0) (pv 3) (fun _ _ => rfl)) (nomark _)))) pa_nil)))))), ?_⟩
    refine ⟨_, rfl, r, ks.map V.int, rfl, hrow.imp SqL.of SqT.of, _, rfl, x, dx, _, rfl, g1, x, n, w1, rfl, ta, n, rfl, by omega, rfl, true, by rw [List.length_map, hkl]; exact congrArg V.bl (decide_eq_true rfl), iteT ?_⟩
    refine ⟨_, rfl, x, dx, _, l, _, rfl, g1, tf_pl _ _ _, SqT.of g2, fun D nD => ?_⟩
    refine walk_gen (walk_tup (xs := pl n)) (fun m H' => Acc H D ((riseL w1 ks n m).map V.bl) H') (Acc.start nD) (fun m H' _ ac => SqT.of (ac.s _ _ g2)) ?_ ?_
    · rintro m y H2o H2 hm ac ⟨rfl, hy⟩
      obtain ⟨hm2, rfl⟩ := plAt hy
      have s2 := ac.s
      have hrl := riseL_len (w := w1) (ks := ks) hn m
      refine ⟨rfl, iteT (B := Acc H D ((riseL w1 ks n (m + 1)).map V.bl) H2) ?_⟩
      refine ⟨_, rfl, _, rfl, x, dx, _, rfl, s2 _ _ g1, x, n, w1, m, rfl, ta.same s2, hm2, fun H3 q3 s3 e3 => ?_⟩
      rw [kids_eq] at e3
      refine ⟨q3, rfl, ⟨_, SqT.of e3⟩, ?_⟩
      refine walk_gen (walk_tup (xs := vi (kidsN n w1 m))) (fun j H' => Acc H D ((riseL w1 ks n m ++ ((kidsN n w1 m).take j).map fun c => decide (keyAt ks m ≤ keyAt ks c)).map V.bl) H' ∧ H' q3 = some (.tup (vi (kidsN n w1 m)))) ⟨by rw [List.take_zero, List.map_nil, List.append_nil]; exact ac.same s3, e3⟩ (fun j H' _ h => SqT.of h.2) ?_ ?_
      · rintro j z H4o H4 hj ⟨ac4, e4⟩ ⟨rfl, hz⟩
        obtain ⟨hj2, rfl⟩ := viAt hz
        have hc := ((kidsN_mem hw hn hm2).mp (List.getElem_mem hj2)).2.1
        have hkn2 := kidsN_len (w := w1) hn m
        rw [List.take_succ_eq_append_getElem hj2]
        have hl4 : (((kidsN n w1 m).take j).map fun c => decide (keyAt ks m ≤ keyAt ks c)).length ≤ 12 := by
          rw [List.length_map, List.length_take]
          omega
        generalize (kidsN n w1 m)[j] = c at *
        have row4 : Sq H4 r (ks.map V.int) := hrow.imp (ac4.s _ _) (ac4.s _ _)
        refine ⟨rfl, iteT (B := Acc H D ((riseL w1 ks n m ++ ((kidsN n w1 m).take j ++ [c]).map fun c => decide (keyAt ks m ≤ keyAt ks c)).map V.bl) H4 ∧ H4 q3 = some (.tup (vi (kidsN n w1 m)))) ?_⟩
        refine ⟨_, rfl, _, rfl, ixS row4 (key_at (show m < ks.length by omega)) ⟨_, rfl, _, rfl, ixS row4 (key_at (show c < ks.length by omega)) ⟨_, _, rfl, rfl, ?_⟩⟩⟩
        refine ⟨_, ac4.a, by rw [List.length_map, List.length_append, sizeLine_eq]; omega, ?_, ?_⟩
        · rw [List.map_append (l₁ := (kidsN n w1 m).take j), ← List.append_assoc, List.map_append (l₂ := [c].map _)]
          exact ac4.push
        · rw [upd_ne (ne_of e4 ac4.a (by intro y; cases y))]
          exact e4
      · rintro H4 ⟨ac4, _⟩
        rw [vi_len, List.take_length, ← riseL_snoc] at ac4
        exact ac4
    · intro H2 ac
      rw [pl_len] at ac
      exact ⟨D, riseL w1 ks n n, rfl, SqL.of ac.a, q H2 _ ac.s (riseL_iff hw hn)⟩
theorem b_risG (T : Tx K mg A) : L2.Binds K A.d_is_rising ["keys", "tree"] [] := T.F_is_rising.binds fun _ _ _ _ _ _ us hl => match us, hl with | [_, _], _ => rfl
def spIsfG (C : Addr) : Sp := fun vs H Q _ => ∃ (c r x n w : Nat) (ks : List Int) (L : List Nat), vs = [.ref c, .ref r, .ref x] ∧ TreeAt C H x n w ∧ Sq H r (ks.map V.int) ∧ ks.length = n ∧ n ≤ 12 ∧ H c = some (.tup (vi L)) ∧ L.length ≤ n ∧ (∀ y ∈ L, y < n) ∧
  ∀ (H' : Hp) (b : Bool), Same H H' → (b = true ↔ (L ≠ [] ∧ StepsP w ks L)) → Q (.bl b) H'
theorem ok_isfG (T : Tx K mg A) : FnOk P w K mg base CX0 8 A.f_is_falling A.d_is_falling ["chain", "row", "tree"] (spIsfG A.C) := by
  refine T.F_is_falling.ok sc_is_falling (fun vs H Q E h => ?_) (fun cdv B outer s H vs Q E hr h => ?_)
  · obtain ⟨c, r, x, n, w, ks, L, rfl, _⟩ := h
    rfl
  · obtain ⟨c, r, x, n, w1, ks, L, rfl, ta, hrow, hkl, hn, ec, hLl, hLn, q⟩ := h
    have nd := sc_is_falling.nd
    have hw := ta.hw
    obtain ⟨dx, l, g1, g2⟩ := id ta.ob
    have noS : (tf n w1 l).lookup ("subtree" : Str) = none := tf_no _ _ _ (by decide +kernel) (by decide +kernel) (by decide +kernel)
    refine ⟨_, PSs.nox (pss_one (ps_ret (pe_and (pe_cmpR op_gt (pe_callB (r := rLn K) call_len_seq (by rfl) T.g_len PySem.boot_len (pa_cons (pv 0) pa_nil)) pe_int (nomark _)) (pe_one (pe_callB (cr_all rfl) (by rfl) T.g_all (by decide +kernel) (pa_cons (pe_lc (own := [("upper", 3), ("lower", 4)]) (g := gTup K 2 (gCons (gName 3) (gCons (gName 4) (gNil)))) (tt := tYes) rfl nd (Zm.pi_zipM true true (by rfl) T.g_zip (pa_cons (pv 0) (pa_cons (pe_slice (r := rSlA K) sl_tupA (pv 0) (po_some pe_int) po_none) pa_nil))) (blkOk_by (own := [("upper", 3), ("lower", 4)]) (N := ["chain", "row", "tree", "upper", "lower"]) (sc := defScope s_is_falling) (by decide +kernel)) (fun _ _ _ _ _ => (pg_tup rfl (pgs_cons (pg_name (i := 3) nd rfl (Or.inl rfl)) (pgs_cons (pg_name (i := 4) nd rfl (Or.inl rfl)) pgs_nil)))) (fun _ _ _ _ _ => pts_nil) (fun _ _ _ _ _ => (pe_and (pe_cmpR (r := L2.rIn K false) op_in_seq (pv 4) (pe_meth (pv 2) T.cT T.M_t_subtree (ok_sub T) (hr.mono (by decide)) (b_sub T) .nil pass0 (pa_cons (pv 3) pa_nil)) (by rfl)) (pe_one (pe_cmpR op_lt (pe_ix (r := rIx K) ix_seq (pv 1) (pv 4) (fun _ _ => rfl)) (pe_ix (r := rIx K) ix_seq (pv 1) (pv 3) (fun _ _ => rfl)) (nomark _)))))) pa_nil)))))), ?_⟩
    refine ⟨_, rfl, c, vi L, rfl, .inr (SqT.of ec), ?_⟩
    by_cases hL : L = []
    · exact ⟨_, _, rfl, rfl, false, congrArg V.bl (decide_eq_false (by rw [vi_len, hL]; show ¬ ((0 : Nat) : Int) > 0; omega)), iteF (q H false (Same.refl _) ⟨fun z => (by cases z), fun z => absurd hL z.1⟩)⟩
    have hLp := List.length_pos_iff.mpr hL
    refine ⟨_, _, rfl, rfl, true, congrArg V.bl (decide_eq_true (by rw [vi_len]; omega)), iteT ?_⟩
    refine ⟨_, rfl, _, rfl, _, rfl, ?_⟩
    unfold tNoPart
    show rSlA K (V.ref c) (some (1 : Int)) none _ _
    refine slTup ec fun H1 u s1 eu => ?_
    have hcut : cutV (vi L) (some (1 : Int)) none = vi (L.drop 1) := by
      rw [show (1 : Int) = ((1 : Nat) : Int) from rfl, cut_from]
      unfold vi
      rw [List.map_drop]
    rw [hcut] at eu
    have ec1 := s1 _ _ ec
    have hmin : L.length - 1 = min (vi L).length (vi (L.drop 1)).length := by rw [vi_len, vi_len, List.length_drop]; omega
    refine ⟨c, u, vi L, vi (L.drop 1), rfl, SqT.of ec1, SqT.of eu, fun D nD => ?_⟩
    refine lc_it (Zm.walk_zipM (n := L.length - 1) hmin) (fun j H' => Acc H1 D ((stL w1 ks L j).map V.bl) H') (Acc.start nD) (fun j H' _ ac => ⟨SqT.of (ac.s _ _ ec1), SqT.of (ac.s _ _ eu)⟩) ?_ ?_
    · rintro j y H2 H3 hj ac ⟨T', x', x2, rfl, hT, rfl, e1, e2⟩
      obtain ⟨hi1, rfl⟩ := viAt e1
      obtain ⟨hi2, rfl⟩ := viAt e2
      rw [List.getElem_drop]
      have hi3 : 1 + j < L.length := by rw [List.length_drop] at hi2; omega
      have hu1 := hLn _ (List.getElem_mem hi1)
      have hu2 := hLn _ (List.getElem_mem hi3)
      rw [stL_snoc, List.map_append, getD_at hi1, getD_at (show j + 1 < L.length by omega)]
      have e12 : L[j + 1]'(show j + 1 < L.length by omega) = L[1 + j] := by congr 1; omega
      rw [e12]
      generalize L[j] = a at *
      generalize L[1 + j] = b at *
      have st := Same.up (o := .tup [V.int (a : Nat), V.int (b : Nat)]) hT
      have ac3 := ac.same st
      refine ⟨_, _, rfl, SqT.of upd_same, rfl, _, _, rfl, _, _, rfl, rfl, rfl, iteT (B := Acc H1 D ((stL w1 ks L j).map V.bl ++ [decide (Fal w1 ks a b)].map V.bl) (upd H2 T' (.tup [V.int (a : Nat), V.int (b : Nat)]))) ?_⟩
      generalize upd H2 T' (.tup [V.int (a : Nat), V.int (b : Nat)]) = G3 at ac3
      have s3 := s1.trans ac3.s
      refine ⟨_, rfl, _, rfl, x, dx, _, rfl, s3 _ _ g1, noS, _, rfl, x, n, w1, a, rfl, ta.same s3, hu1, fun H4 b4 s4 nb4 eb4 => ?_⟩
      have ac4 := ac3.same s4
      have row4 : Sq H4 r (ks.map V.int) := hrow.imp ((s3.trans s4) _ _) ((s3.trans s4) _ _)
      by_cases hin : b ∈ subL n w1 a
      · refine ⟨b4, _, rfl, .inr (SqT.of eb4), rfl, vi_flat _, true, ?_, iteT ?_⟩
        · rw [if_neg Bool.false_ne_true, mem_vi]
          exact congrArg V.bl (decide_eq_true hin)
        refine ⟨_, rfl, _, rfl, ixS row4 (key_at (show b < ks.length by omega)) ⟨_, rfl, _, rfl, ixS row4 (key_at (show a < ks.length by omega)) ⟨_, _, rfl, rfl, ?_⟩⟩⟩
        refine ⟨_, ac4.a, by rw [List.length_map, stL_len, sizeLine_eq]; omega, ?_⟩
        have ed : decide (keyAt ks b < keyAt ks a) = decide (Fal w1 ks a b) := decide_eq_decide.mpr ⟨fun z => ⟨(sub_mem.mp hin).2, fun e => (by rw [e] at z; exact absurd z (Int.lt_irrefl _)), z⟩, fun z => z.2.2⟩
        show Acc _ _ _ (upd H4 D (.lst (_ ++ [V.bl (decide (keyAt ks b < keyAt ks a))])))
        rw [ed]
        exact ac4.push
      · refine ⟨b4, _, rfl, .inr (SqT.of eb4), rfl, vi_flat _, false, ?_, iteF ?_⟩
        · rw [if_neg Bool.false_ne_true, mem_vi]
          exact congrArg V.bl (decide_eq_false hin)
        refine ⟨_, ac4.a, by rw [List.length_map, stL_len, sizeLine_eq]; omega, ?_⟩
        rw [decide_eq_false (show ¬ Fal w1 ks a b from fun z => hin (sub_mem.mpr ⟨hu2, z.1⟩))]
        exact ac4.push
    · intro H2 ac
      exact ⟨D, stL w1 ks L (L.length - 1), rfl, SqL.of ac.a, q H2 _ (s1.trans ac.s) ⟨fun z => ⟨hL, stL_iff.mp z⟩, fun z => stL_iff.mpr z.2⟩⟩
theorem b_isfG (T : Tx K mg A) : L2.Binds K A.d_is_falling ["chain", "row", "tree"] [] := T.F_is_falling.binds fun _ _ _ _ _ _ us hl => match us, hl with | [_, _, _], _ => rfl

end
end Tw

set_option Elab.async false
set_option linter.all false
set_option maxRecDepth 100000
set_option maxHeartbeats 2000000
namespace Tw
open PySem PySem.Spec PyProof.Rows L2
section
variable {P : Program} {w : World} {K : PySem.W.Frag} {mg : Str → Option Value} {base : Heap} {A : Ad}
open LamX (ExtN Tabs TabS)
/-- a tuple of keys at an address -/
def RowAt (H : Hp) (v : V) (l : List Int) : Prop := ∃ t, v = .ref t ∧ H t = some (.tup (l.map V.int))
abbrev RowsAt (H : Hp) : List V → List (List Int) → Prop := Paired (RowAt H)
structure AccR (H1 : Hp) (D : Addr) (ls : List (List Int)) (H : Hp) : Prop where
  s : Same H1 H
  n : H1 D = Option.none
  a : ∃ xs, H D = some (.lst xs) ∧ RowsAt H xs ls
theorem RowsAt.push {H : Hp} {x : V} {l : List Int} (hp : RowAt H x l) : ∀ {xs : List V} {ls : List (List Int)}, RowsAt H xs ls → RowsAt H (xs ++ [x]) (ls ++ [l])
  | _, _, .nil => .cons hp .nil
  | _, _, .cons a b => .cons a (RowsAt.push hp b)
theorem RowsAt.put {H : Hp} {D : Addr} {xs zs ys : List V} {ls : List (List Int)} (hD : H D = some (.lst zs)) (h : RowsAt H xs ls) : RowsAt (upd H D (.lst ys)) xs ls :=
  L2.Paired.mapP h fun _ _ ⟨t, e, z⟩ => ⟨t, e, by rw [upd_ne (ne_of z hD (by intro q; cases q))]; exact z⟩
theorem AccR.push {H1 H : Hp} {D : Addr} {ls : List (List Int)} {x : V} {l : List Int} (h : AccR H1 D ls H) (hp : RowAt H x l) (hl : ls.length < sizeLine) :
    ∃ acc, H D = some (.lst acc) ∧ acc.length < sizeLine ∧ AccR H1 D (ls ++ [l]) (upd H D (.lst (acc ++ [x]))) := by
  obtain ⟨xs, e, z⟩ := h.a
  refine ⟨xs, e, by rw [z.length]; exact hl, fun b o k => ?_, h.n, xs ++ [x], upd_same, (RowsAt.push hp z).put e⟩
  rw [upd_ne (ne_of_none k h.n)]
  exact h.s b o k
theorem RowsAt.same {H H' : Hp} {xs : List V} {ls : List (List Int)} (h : RowsAt H xs ls) (s : Same H H') : RowsAt H' xs ls := L2.Paired.mapP h fun _ _ ⟨t, e, z⟩ => ⟨t, e, s _ _ z⟩
theorem AccR.same {H1 H H' : Hp} {D : Addr} {ls : List (List Int)} (h : AccR H1 D ls H) (s : Same H H') : AccR H1 D ls H' := ⟨h.s.trans s, h.n, let ⟨xs, e, z⟩ := h.a; ⟨xs, s _ _ e, z.same s⟩⟩
theorem AccR.start {H1 : Hp} {D : Addr} (n : H1 D = none) : AccR H1 D [] (upd H1 D (.lst [])) := ⟨Same.up n, n, [], upd_same, .nil⟩
def fdM (v0 v1 v2 : V) : List (Str × V) := putF "chains" v2 (putF "kept" v1 (putF "row" v0 (([] : List (Str × V)))))
def AtM (C : Addr) (H : Hp) (p : Addr) (x0 : List Int) (X : List Nat) (CH : List (List Nat)) : Prop := ∃ (dx t0 t1 t2 : Addr) (xs : List V), H p = some (.ins C dx (fdM (.ref t0) (.ref t1) (.ref t2))) ∧ H t0 = some (.tup (x0.map V.int)) ∧ H t1 = some (.tup (vi X)) ∧ H t2 = some (.lst xs) ∧ RowsAt H xs (CH.map zI)
theorem RowsAt.ext {H H' : Hp} {xs : List V} {ls : List (List Int)} (h : RowsAt H xs ls) (e : ExtN H H') : RowsAt H' xs ls := L2.Paired.mapP h fun _ _ ⟨t, q, z⟩ => ⟨t, q, e _ _ z fun _ y => nomatch y⟩
theorem RowsAt.get {H : Hp} : ∀ {xs : List V} {ls : List (List Int)} {i : Nat} {x : V}, RowsAt H xs ls → xs[i]? = some x → ∃ hi : i < ls.length, RowAt H x ls[i]
  | _, _, 0, _, .cons a _, e => ⟨Nat.succ_pos _, by rw [← Option.some.inj e]; exact a⟩
  | _, _, i + 1, _, .cons _ b, e => by
    obtain ⟨hi, r⟩ := RowsAt.get b (by simpa using e)
    exact ⟨Nat.succ_lt_succ hi, r⟩
def e0 : Str := ⟨#[]⟩
theorem extN_of {H H' : Hp} (s : Same H H') : ExtN H H' := fun b o e _ => s b o e
theorem fdM_chains (v0 v1 v2 : V) : (fdM v0 v1 v2).lookup ("chains" : Str) = some v2 := by
  unfold fdM
  rw [lookup_putF, if_pos rfl]
theorem fdM_kept (v0 v1 v2 : V) : (fdM v0 v1 v2).lookup ("kept" : Str) = some v1 := by
  unfold fdM
  rw [lookup_putF, if_neg (by decide +kernel), lookup_putF, if_pos rfl]
theorem fdM_row (v0 v1 v2 : V) : (fdM v0 v1 v2).lookup ("row" : Str) = some v0 := by
  unfold fdM
  rw [lookup_putF, if_neg (by decide +kernel), lookup_putF, if_neg (by decide +kernel), lookup_putF, if_pos rfl]
theorem ints_dp (K : PySem.W.Frag) (H : Hp) : ∀ ns : List Int, DpAll K H (ns.map V.int) (ns.map PyData.int)
  | [] => .nil
  | n :: ns => .cons (.int n) (ints_dp K H ns)
theorem ints_all : ∀ ks ms : List Int, PyData.eqvAll (ks.map PyData.int) (ms.map PyData.int) = decide (ks = ms)
  | [], [] => by simp [PyData.eqvAll]
  | [], m :: ms => by simp [PyData.eqvAll]
  | k :: ks, [] => by simp [PyData.eqvAll]
  | k :: ks, m :: ms => by
    simp only [List.map_cons, PyData.eqvAll, ints_all ks ms, PyData.eqv]
    by_cases h1 : k = m
    · by_cases h2 : ks = ms <;> simp [h1, h2]
    · simp [h1]
theorem ints_eqvL (a b : List Int) : PyData.eqv (.list (a.map PyData.int)) (.list (b.map PyData.int)) = decide (a = b) := by
  rw [← ints_all]
  simp [PyData.eqv]
/-- tuples of keys as data -/
abbrev rowD (r : List Int) : PyData := .tuple (r.map .int)
theorem ints_tup (K : PySem.W.Frag) {H : Hp} {a : Addr} {ks : List Int} (h : H a = some (.tup (ks.map V.int))) : Dp K H (.ref a) (.tuple (ks.map PyData.int)) := .tup (SqT.of h) (ints_dp K H ks)
theorem rowD_dp {H : Hp} {v : V} {r : List Int} (h : RowAt H v r) : Dp K H v (rowD r) := by
  obtain ⟨t, rfl, e⟩ := h
  exact ints_tup K e
theorem rowD_eqv (r q : List Int) : PyData.eqv (rowD r) (rowD q) = decide (r = q) := by
  rw [← ints_all]
  simp [PyData.eqv]
theorem rowsD_dp {H : Hp} : ∀ {xs : List V} {ls : List (List Int)}, RowsAt H xs ls → DpAll K H xs (ls.map rowD)
  | _, _, .nil => .nil
  | _, _, .cons a b => .cons (rowD_dp a) (rowsD_dp b)
theorem shaped_ints (ns : List Int) : SeqAt.shaped (.list (ns.map PyData.int)) = true := by
  have h1 : ∀ ms : List Int, PyData.canLayAll0 (ms.map PyData.int) = true := fun ms => by
    induction ms with
    | nil => rfl
    | cons m ms ih => rw [List.map_cons, PyData.canLayAll0, ih]; rfl
  have h2 : ∀ ms : List Int, PyData.depthAll (ms.map PyData.int) ≤ 1 := fun ms => by
    induction ms with
    | nil => simp [PyData.depthAll]
    | cons m ms ih =>
      simp only [List.map_cons, PyData.depthAll, PyData.depth]
      omega
  have h3 : PyData.depth (.list (ns.map PyData.int)) ≤ 64 := by
    have := h2 ns
    simp only [PyData.depth]
    omega
  unfold SeqAt.shaped
  rw [decide_eq_true h3, Bool.and_true]
  simp only [PyData.canLay0]
  exact h1 ns
theorem ints_shT (ks : List Int) : SeqAt.shaped (.tuple (ks.map PyData.int)) = true := by
  have h := shaped_ints ks
  unfold SeqAt.shaped at h ⊢
  simp only [PyData.canLay0, PyData.depth] at h ⊢
  exact h
theorem rowsD_lay : ∀ ls : List (List Int), PyData.canLayAll0 (ls.map rowD) = true
  | [] => rfl
  | r :: ls => by
    have h := SeqAt.canLay_of_shaped (ints_shT r)
    rw [List.map_cons, PyData.canLayAll0, rowsD_lay ls, Bool.and_true]
    exact h
theorem rowsD_deep : ∀ ls : List (List Int), PyData.depthAll (ls.map rowD) ≤ 3
  | [] => by simp [PyData.depthAll]
  | r :: ls => by
    have := rowsD_deep ls
    have hp : PyData.depth (rowD r) ≤ 3 := by simp [rowD, PyData.depth, PySem.W.depth_ints]
    simp only [List.map_cons, PyData.depthAll]
    omega
theorem rowsD_shaped (ls : List (List Int)) : SeqAt.shaped (.list (ls.map rowD)) = true := by
  have := rowsD_deep ls
  unfold SeqAt.shaped
  rw [Bool.and_eq_true]
  refine ⟨?_, decide_eq_true ?_⟩
  · simp only [PyData.canLay0]
    exact rowsD_lay ls
  · simp only [PyData.depth]
    omega
theorem rowsD_all : ∀ ls ms : List (List Int), PyData.eqvAll (ls.map rowD) (ms.map rowD) = decide (ls = ms)
  | [], [] => by simp [PyData.eqvAll]
  | [], q :: qs => by simp [PyData.eqvAll]
  | p :: ps, [] => by simp [PyData.eqvAll]
  | p :: ps, q :: qs => by
    simp only [List.map_cons, PyData.eqvAll, rowsD_all ps qs]
    rw [rowD_eqv]
    by_cases h1 : p = q
    · by_cases h2 : ps = qs <;> simp [h1, h2]
    · simp [h1]
theorem rowsL_eqv (ls ms : List (List Int)) : PyData.eqv (.list (ls.map rowD)) (.list (ms.map rowD)) = decide (ls = ms) := by
  rw [← rowsD_all]
  simp [PyData.eqv]
theorem rows_upd {H : Hp} {p : Addr} {o o2 : HO} (hp : H p = some o) (ho : ∀ zs, o ≠ .tup zs) {xs : List V} {ls : List (List Int)} (h : RowsAt H xs ls) : RowsAt (upd H p o2) xs ls :=
  L2.Paired.mapP h fun _ _ ⟨t, e, z⟩ => ⟨t, e, by rw [upd_ne (ne_of z hp (fun q => ho _ q.symm))]; exact z⟩
theorem tupQ {K : PySem.W.Frag} {H : Hp} {t : Addr} {xs : List V} {Q : VK} (h : Sq H t xs) (q : ∀ (H' : Hp) (p : Addr), Same H H' → H' p = some (.tup xs) → Q (.ref p) H') : rTupK K [.ref t] H Q := by
  rcases h with h | h
  · exact ⟨t, xs, rfl, .inl ⟨SqL.of h, fun l nl => q _ l (Same.up nl) upd_same⟩⟩
  · exact ⟨t, xs, rfl, .inr ⟨SqT.of h, q _ t (Same.refl _) h⟩⟩
theorem zI_inj {X Y : List Nat} (h : zI X = zI Y) : X = Y := (List.map_inj_right fun _ _ h => Int.ofNat.inj h).mp h
theorem AtM.ext {C : Addr} {H H' : Hp} {p : Addr} {x0 : List Int} {X : List Nat} {CH : List (List Nat)} (h : AtM C H p x0 X CH) (e : LamX.ExtN H H') : AtM C H' p x0 X CH := let ⟨dx, t0, t1, t2, xs, h, e0, e1, e2, r⟩ := h; ⟨dx, t0, t1, t2, xs, e _ _ h (fun _ z => nomatch z), e _ _ e0 (fun _ z => nomatch z), e _ _ e1 (fun _ z => nomatch z), e _ _ e2 (fun _ z => nomatch z), r.ext e⟩
theorem AtM.same {C : Addr} {H H' : Hp} {p : Addr} {x0 : List Int} {X : List Nat} {CH : List (List Nat)} (h : AtM C H p x0 X CH) (s : Same H H') : AtM C H' p x0 X CH := h.ext (extN_of s)
theorem Sq.ext {H H' : Hp} {a : Addr} {xs : List V} (h : Sq H a xs) (e : ExtN H H') : Sq H' a xs := h.elim (fun x => .inl (e _ _ x (fun ps z => nomatch z))) fun x => .inr (e _ _ x (fun ps z => nomatch z))
theorem TreeAt.ext {C : Addr} {H H' : Hp} {p n w : Nat} (h : TreeAt C H p n w) (e : ExtN H H') : TreeAt C H' p n w :=
  ⟨let ⟨dx, t, a, b⟩ := h.ob; ⟨dx, t, e _ _ a (fun ps z => nomatch z), e _ _ b (fun ps z => nomatch z)⟩, h.hn, h.hw⟩
end
end Tw

set_option Elab.async false
set_option linter.all false
set_option maxRecDepth 100000
set_option maxHeartbeats 2000000
namespace Tw
open PySem PySem.Spec PyProof.Rows L2
section
variable {P : Program} {w : World} {K : PySem.W.Frag} {mg : Str → Option Value} {base : Heap} {A : Ad}
open LamX (ExtN Tabs TabS)
/-! mended, of any sequences: AtM fdM fdM_row fdM_kept fdM_chains rows_upd extN_of tupQ Sq Sq.same RowAt RowsAt RowsAt.get RowsAt.same RowsAt.push RowsAt.put AccR AccR.start AccR.push AccR.same sizeLine_eq walk_list zI zI_vi RowsAt.ext rowD rowsD_dp rowD_dp rowD_eqv rowsL_eqv rowsD_shaped ints_dp ints_eqvL -/
def SeqsAt (H : Hp) : List V → List (List Nat) → Prop := Paired fun x C => ∃ t : Addr, x = .ref t ∧ Sq H t (vi C)
theorem SeqsAt.same {H H' : Hp} {xs : List V} {CH : List (List Nat)} (h : SeqsAt H xs CH) (s : Same H H') : SeqsAt H' xs CH := L2.Paired.mapP h fun _ _ ⟨t, e, z⟩ => ⟨t, e, z.imp (s _ _) (s _ _)⟩
theorem SeqsAt.get {H : Hp} : ∀ {xs : List V} {ls : List (List Nat)} {i : Nat} {x : V}, SeqsAt H xs ls → xs[i]? = some x → ∃ hi : i < ls.length, ∃ t : Addr, x = .ref t ∧ Sq H t (vi ls[i])
  | _, _, 0, _, .cons a _, e => ⟨Nat.succ_pos _, by rw [← Option.some.inj e]; exact a⟩
  | _, _, i + 1, _, .cons _ b, e => by
    obtain ⟨hi, r⟩ := SeqsAt.get b (by simpa using e)
    exact ⟨Nat.succ_lt_succ hi, r⟩
theorem SeqsAt.of {H : Hp} : ∀ {xs : List V} {CH : List (List Nat)}, RowsAt H xs (CH.map zI) → SeqsAt H xs CH
  | _, [], h => by
    cases h
    exact .nil
  | _, C :: CH, h => by
    cases h with
    | cons a b =>
      obtain ⟨t, e, z⟩ := a
      exact .cons ⟨t, e, .inr (by rw [← zI_vi]; exact z)⟩ (SeqsAt.of b)
theorem seqs_upd {H : Hp} {p : Addr} {o o2 : HO} (hp : H p = some o) (ho : ∀ zs, o ≠ .tup zs) (hl : ∀ zs, o ≠ .lst zs) {xs : List V} {ls : List (List Nat)} (h : SeqsAt H xs ls) : SeqsAt (upd H p o2) xs ls :=
  L2.Paired.mapP h fun _ _ ⟨t, e, z⟩ => ⟨t, e, z.imp (fun z => (upd_ne (ne_of z hp (fun q => hl _ q.symm))).trans z) (fun z => (upd_ne (ne_of z hp (fun q => ho _ q.symm))).trans z)⟩
def spIMG (C : Addr) : Sp := fun vs H Q _ => ∃ (p dx a0 a1 a2 : Nat) (x0 : List Int) (X : List Nat) (CH : List (List Nat)) (xs : List V), vs = [.ref p, .ref a0, .ref a1, .ref a2] ∧ H p = some (.ins C dx []) ∧ Sq H a0 (x0.map V.int) ∧ Sq H a1 (vi X) ∧ H a2 = some (.lst xs) ∧ SeqsAt H xs CH ∧ CH.length ≤ 20 ∧
  ∀ (H' : Hp), (∀ b o, H b = some o → b ≠ p → H' b = some o) → AtM C H' p x0 X CH → Q .non H'
theorem ok_iMG (T : Tx K mg A) : FnOk P w K mg base CX0 1 A.f_m___init__ A.d_m___init__ ["self", "row", "kept", "chains"] (spIMG A.CM) := by
  refine T.F_m___init__.ok sc_m___init__ (fun vs H Q E h => ?_) (fun cdv B outer s H vs Q E hr h => ?_)
  · obtain ⟨p, dx, a0, a1, a2, x0, X, CH, xs, rfl, _⟩ := h
    rfl
  · obtain ⟨p, dx, a0, a1, a2, x0, X, CH, xs, rfl, hp, ha0, ha1, ha2, hrx, hCl, q⟩ := h
    have nd := sc_m___init__.nd
    refine ⟨_, (pss_cons (ps_fld (pv 0) (pe_callTy (r := rTupK K) call_tupleK (by rfl) T.g_tuple (by decide +kernel) (pa_cons (pv 1) pa_nil)) rfl)
      (pss_cons (ps_fld (pv 0) (pe_callTy (r := rTupK K) call_tupleK (by rfl) T.g_tuple (by decide +kernel) (pa_cons (pv 2) pa_nil)) rfl)
      (pss_one (ps_fld (pv 0) (pe_lc (own := [("chain", 4)]) (g := gName 4) (tt := tYes) rfl nd (pi_list (pv 3)) (blkOk_by (own := [("chain", 4)]) (N := ["self", "row", "kept", "chains", "chain"]) (sc := defScope s_m___init__) (by decide +kernel)) (fun _ _ _ _ _ => pg_name (i := 4) nd rfl (Or.inl rfl)) (fun _ _ _ _ _ => pts_nil) (fun _ _ _ _ _ => (pe_callTy (r := rTupK K) call_tupleK (by rfl) T.g_tuple (by decide +kernel) (pa_cons (pv 4) pa_nil)))) rfl)))), ?_⟩
    refine ⟨_, rfl, ?_⟩
    unfold tNil
    refine tupQ ha0 fun G0 t0 s0 e0 => ?_
    have hp := s0 _ _ hp
    have fr : ∀ b o, H b = some o → b ≠ p → G0 b = some o := fun b o e _ => s0 _ _ e
    have ha1 : Sq G0 a1 (vi X) := ha1.imp (s0 _ _) (s0 _ _)
    have ha2 := s0 _ _ ha2
    have hrx := hrx.same s0
    refine ⟨_, rfl, p, A.CM, dx, _, rfl, hp, T.cTM, T.mRow, (by show 0 < 1000; decide), ?_⟩
    have fr : ∀ b o, H b = some o → b ≠ p → (upd G0 p (.ins A.CM dx (putF "row" (.ref t0) ([])))) b = some o := fun b o e n => by rw [upd_ne n]; exact fr b o e n
    have e0 : (upd G0 p (.ins A.CM dx (putF "row" (.ref t0) ([])))) t0 = _ := (upd_ne (ne_of e0 hp (by intro z; cases z))).trans e0
    have ha1 : Sq (upd G0 p (.ins A.CM dx (putF "row" (.ref t0) ([])))) a1 (vi X) := ha1.imp (fun z => (upd_ne (ne_of z hp (by intro z; cases z))).trans z) (fun z => (upd_ne (ne_of z hp (by intro z; cases z))).trans z)
    have ha2 := (upd_ne (o := .ins A.CM dx (putF "row" (.ref t0) ([]))) (ne_of ha2 hp (by intro z; cases z))).trans ha2
    have hrx := seqs_upd (o2 := .ins A.CM dx (putF "row" (.ref t0) ([]))) hp (fun _ z => nomatch z) (fun _ z => nomatch z) hrx
    have hp : (upd G0 p (.ins A.CM dx (putF "row" (.ref t0) ([])))) p = _ := upd_same
    generalize upd G0 p (.ins A.CM dx (putF "row" (.ref t0) ([]))) = U0 at fr hp e0 ha1 ha2 hrx
    refine ⟨_, rfl, ?_⟩
    refine tupQ ha1 fun G1 t1 s1 e1 => ?_
    have hp := s1 _ _ hp
    have fr : ∀ b o, H b = some o → b ≠ p → G1 b = some o := fun b o e n => s1 _ _ (fr b o e n)
    have e0 := s1 _ _ e0
    have ha2 := s1 _ _ ha2
    have hrx := hrx.same s1
    refine ⟨_, rfl, p, A.CM, dx, _, rfl, hp, T.cTM, T.mKept, (by show 1 < 1000; decide), ?_⟩
    have fr : ∀ b o, H b = some o → b ≠ p → (upd G1 p (.ins A.CM dx (putF "kept" (.ref t1) (putF "row" (.ref t0) ([]))))) b = some o := fun b o e n => by rw [upd_ne n]; exact fr b o e n
    have e0 : (upd G1 p (.ins A.CM dx (putF "kept" (.ref t1) (putF "row" (.ref t0) ([]))))) t0 = _ := (upd_ne (ne_of e0 hp (by intro z; cases z))).trans e0
    have e1 : (upd G1 p (.ins A.CM dx (putF "kept" (.ref t1) (putF "row" (.ref t0) ([]))))) t1 = _ := (upd_ne (ne_of e1 hp (by intro z; cases z))).trans e1
    have ha2 := (upd_ne (o := .ins A.CM dx (putF "kept" (.ref t1) (putF "row" (.ref t0) ([])))) (ne_of ha2 hp (by intro z; cases z))).trans ha2
    have hrx := seqs_upd (o2 := .ins A.CM dx (putF "kept" (.ref t1) (putF "row" (.ref t0) ([])))) hp (fun _ z => nomatch z) (fun _ z => nomatch z) hrx
    have hp : (upd G1 p (.ins A.CM dx (putF "kept" (.ref t1) (putF "row" (.ref t0) ([]))))) p = _ := upd_same
    generalize upd G1 p (.ins A.CM dx (putF "kept" (.ref t1) (putF "row" (.ref t0) ([])))) = U1 at fr hp e0 e1 ha2 hrx
    refine ⟨_, rfl, a2, rfl, ⟨_, SqL.of ha2⟩, fun D nD => ?_⟩
    refine lc_it (walk_list (xs := xs)) (fun j H' => AccR U1 D ((CH.take j).map zI) H') (AccR.start nD) (fun j H' _ a => SqL.of (a.s _ _ ha2)) ?_ ?_
    · rintro j y H5 H6 hj a ⟨rfl, hy⟩
      obtain ⟨hj2, t, rfl, et⟩ := hrx.get hy
      rw [List.take_succ_eq_append_getElem hj2, List.map_append]
      have hl : ((CH.take j).map zI).length < sizeLine := by rw [List.length_map, List.length_take, sizeLine_eq]; omega
      generalize CH[j] = C at *
      refine ⟨rfl, iteT (B := AccR U1 D ((CH.take j).map zI ++ [C].map zI) H6) ⟨_, rfl, ?_⟩⟩
      refine tupQ (et.imp (a.s _ _) (a.s _ _)) fun H7 t7 s7 e7 => ?_
      exact (a.same s7).push (x := .ref t7) (l := zI C) ⟨t7, rfl, by rw [zI_vi]; exact e7⟩ hl
    · intro G2 a
      have hxl : xs.length = CH.length := Paired.length hrx
      rw [hxl, List.take_length] at a
      obtain ⟨zs, ez, rz⟩ := a.a
      have hp := a.s _ _ hp
      have fr : ∀ b o, H b = some o → b ≠ p → G2 b = some o := fun b o e n => a.s _ _ (fr b o e n)
      have e0 := a.s _ _ e0
      have e1 := a.s _ _ e1
      refine ⟨_, rfl, p, A.CM, dx, _, rfl, hp, T.cTM, T.mChains, (by show 2 < 1000; decide), ?_⟩
      refine q _ (fun b o e n => by rw [upd_ne n]; exact fr b o e n) ⟨dx, t0, t1, D, zs, upd_same, ?_, ?_, ?_, rows_upd hp (fun _ z => nomatch z) rz⟩
      · exact (upd_ne (ne_of e0 hp (by intro z; cases z))).trans e0
      · exact (upd_ne (ne_of e1 hp (by intro z; cases z))).trans e1
      · exact (upd_ne (ne_of ez hp (by intro z; cases z))).trans ez
theorem b_iMG (T : Tx K mg A) : L2.Binds K A.d_m___init__ ["self", "row", "kept", "chains"] [] := T.F_m___init__.binds fun _ _ _ _ _ _ us hl => match us, hl with | [_, _, _, _], _ => rfl
def spEM (K : PySem.W.Frag) (C : Addr) : Sp := fun vs H Q _ => ∃ (o : Addr) (y : V) (x0 : List Int) (X : List Nat) (CH : List (List Nat)), vs = [.ref o, y] ∧ AtM C H o x0 X CH ∧ ((∃ (b : Addr) (y0 : List Int) (Y : List Nat) (DH : List (List Nat)), y = .ref b ∧ AtM C H b y0 Y DH ∧ Q (.bl (decide (x0 = y0 ∧ X = Y ∧ CH = DH))) H) ∨
  (∃ u, TyX K H y u ∧ PySem.W.kitOne K u (.ref C) = some false ∧ Q (.bl false) H))
theorem map_zI_inj {CH DH : List (List Nat)} : CH.map zI = DH.map zI ↔ CH = DH := (List.map_inj_right fun _ _ h => zI_inj h)
theorem ok_eM (T : Tx K mg A) : FnOk P w K mg base CX0 1 A.f_m___eq__ A.d_m___eq__ ["self", "other"] (spEM K A.CM) := by
  refine T.F_m___eq__.ok sc_m___eq__ (fun vs H Q E h => ?_) (fun cdv B outer s H vs Q E hr h => ?_)
  · obtain ⟨o, y, x0, X, CH, rfl, _⟩ := h
    rfl
  · obtain ⟨o, y, x0, X, CH, rfl, ⟨dx, t0, t1, t2, xs, g, e0, e1, e2, r⟩, h⟩ := h
    have hu := hr.units
    refine ⟨_, (pss_one (ps_ret (pe_and (pe_callB (r := rIsi K) call_isi (by rfl) T.g_isinstance (by decide +kernel) (pa_cons (pv 1) (pa_cons (pe_glob (v := .ref A.CM) (by rfl) T.mCM (relR _)) pa_nil))) (pe_and (pe_cmpR (op_eqD hu) (pe_fld (pv 0) rfl) (pe_fld (pv 1) rfl) (nomark _)) (pe_and (pe_cmpR (op_eqD hu) (pe_fld (pv 0) rfl) (pe_fld (pv 1) rfl) (nomark _)) (pe_one (pe_cmpR (op_eqD hu) (pe_fld (pv 0) rfl) (pe_fld (pv 1) rfl) (nomark _)))))))), ?_⟩
    rcases h with ⟨b, y0, Y, DH, rfl, ⟨dy, u0, u1, u2, ys, k, f0, f1, f2, r2⟩, q⟩ | ⟨u, ty, kt, q⟩
    · refine ⟨_, rfl, _, _, .ref A.CM, _, true, rfl, .own A.CM, .base (.ins k T.cTM T.kaM T.knM T.ktkM T.kmM), (by unfold PySem.W.kitOne; rw [if_pos (by simp)]), true, rfl, iteT ?_⟩
      refine ⟨_, rfl, o, A.CM, dx, _, _, rfl, g, T.cTM, T.mRow, fdM_row _ _ _, _, rfl, b, A.CM, dy, _, _, rfl, k, T.cTM, T.mRow, fdM_row _ _ _, rowD x0, rowD y0, rowD_dp (r := x0) ⟨t0, rfl, e0⟩, rowD_dp (r := y0) ⟨u0, rfl, f0⟩, shaped_ints _, shaped_ints _, _, rfl, ?_⟩
      rw [rowD_eqv]
      by_cases h0 : x0 = y0
      case neg =>
        rw [decide_eq_false h0]
        rw [decide_eq_false (show ¬ (x0 = y0 ∧ X = Y ∧ CH = DH) from fun z => h0 z.1)] at q
        exact iteF q
      rw [decide_eq_true h0]
      refine iteT ?_
      refine ⟨_, rfl, o, A.CM, dx, _, _, rfl, g, T.cTM, T.mKept, fdM_kept _ _ _, _, rfl, b, A.CM, dy, _, _, rfl, k, T.cTM, T.mKept, fdM_kept _ _ _, rowD (zI X), rowD (zI Y), rowD_dp (r := zI X) ⟨t1, rfl, by rw [zI_vi]; exact e1⟩, rowD_dp (r := zI Y) ⟨u1, rfl, by rw [zI_vi]; exact f1⟩, shaped_ints _, shaped_ints _, _, rfl, ?_⟩
      rw [rowD_eqv]
      by_cases h1 : X = Y
      case neg =>
        rw [decide_eq_false fun z => h1 (zI_inj z)]
        rw [decide_eq_false (show ¬ (x0 = y0 ∧ X = Y ∧ CH = DH) from fun z => h1 z.2.1)] at q
        exact iteF q
      rw [decide_eq_true (congrArg zI h1)]
      refine iteT ?_
      refine ⟨_, rfl, o, A.CM, dx, _, _, rfl, g, T.cTM, T.mChains, fdM_chains _ _ _, _, rfl, b, A.CM, dy, _, _, rfl, k, T.cTM, T.mChains, fdM_chains _ _ _, _, _, .lst (SqL.of e2) (rowsD_dp r), .lst (SqL.of f2) (rowsD_dp r2), rowsD_shaped _, rowsD_shaped _, ?_⟩
      rw [rowsL_eqv]
      have ed : decide (x0 = y0 ∧ X = Y ∧ CH = DH) = decide (CH.map zI = DH.map zI) := decide_eq_decide.mpr ⟨fun z => map_zI_inj.mpr z.2.2, fun z => ⟨h0, h1, map_zI_inj.mp z⟩⟩
      rw [ed] at q
      exact q
    · exact ⟨_, rfl, _, _, u, _, false, rfl, .own A.CM, ty, kt, false, rfl, iteF q⟩
theorem b_eM (T : Tx K mg A) : L2.Binds K A.d_m___eq__ ["self", "other"] [] := T.F_m___eq__.binds fun _ _ _ _ _ _ us hl => match us, hl with | [_, _], _ => rfl

end
end Tw

set_option Elab.async false
set_option linter.all false
set_option maxRecDepth 100000
set_option maxHeartbeats 2000000
namespace Tw
open PySem PySem.Spec PyProof.Rows L2
section
variable {P : Program} {w : World} {K : PySem.W.Frag} {mg : Str → Option Value} {base : Heap} {A : Ad}
open LamX (ExtN Tabs TabS)
theorem kb_of (T : Tx K mg A) : ∃ mv : List Value, KBn K A.d_t_of ["cls", "row", "arms"] 2 ["arms"] (fun us ws => us ++ (mv ++ ws)) (fun vs zs => vs ++ zs) := by
  obtain ⟨mv, h⟩ := T.F_t_of.kbinds0 (ps := ["cls", "row", "arms"]) 2 ["arms"] [] (fun us mv ws => us ++ (mv ++ ws)) (by simp) (by simp) (fun r1 r2 r3 => r1.append (r2.append r3))
    (fun D doc pm an cdv ct us mv ws h1 h2 h3 => by
      match us, mv, ws, h1, h2, h3 with
      | [a, b], [], [c], _, _, _ => rfl)
  exact ⟨mv, h⟩
theorem kb_init (T : Tx K mg A) : ∃ mv : List Value, KBn K A.d_t___init__ ["self", "many", "arms"] 2 ["arms"] (fun us ws => us ++ (mv ++ ws)) (fun vs zs => vs ++ zs) := by
  obtain ⟨mv, h⟩ := T.F_t___init__.kbinds0 (ps := ["self", "many", "arms"]) 2 ["arms"] [] (fun us mv ws => us ++ (mv ++ ws)) (by simp) (by simp) (fun r1 r2 r3 => r1.append (r2.append r3))
    (fun D doc pm an cdv ct us mv ws h1 h2 h3 => by
      match us, mv, ws, h1, h2, h3 with
      | [a, b], [], [c], _, _, _ => rfl)
  exact ⟨mv, h⟩
theorem cst {x : Str} {n : Int} (h : mg x = some (.int n 0) ∨ ∃ t, mg x = some (.int n t)) : ∃ t, mg x = some (.int n t) := h.elim (fun e => ⟨0, e⟩) id
def spCa : Sp := fun vs H Q _ => ∃ i : Int, vs = [.int i] ∧ (1 ≤ i ∧ i ≤ 4) ∧ Q .non H
theorem ok_ca (T : Tx K mg A) : FnOk P w K mg base CX0 3 A.f_check_arms A.d_check_arms ["arms"] spCa := by
  refine T.F_check_arms.ok sc_check_arms (fun vs H Q E h => ?_) (fun cdv B outer s H vs Q E hr h => ?_)
  · obtain ⟨i, rfl, _⟩ := h
    rfl
  · obtain ⟨i, rfl, hi, q⟩ := h
    obtain ⟨t, hg⟩ := cst T.c_MOST_ARMS
    refine ⟨_, pss_one (ps_if (pt_not (pt_val (pe_call (ok_ii T) hr (by rfl) T.m_is_integer_from T.F_is_integer_from.kp (b_ii T) .nil pass0
      (pa_cons (pv 0) (pa_cons pe_int (pa_cons (pe_glob (by rfl) hg (relI _ _)) pa_nil)))))) (pss_one ps_never) pss_nil), ?_⟩
    refine ⟨_, rfl, _, _, _, rfl, .inl ⟨i, rfl, _, rfl, ?_⟩⟩
    rw [decide_eq_true hi]
    exact iteF q
theorem b_ca (T : Tx K mg A) : L2.Binds K A.d_check_arms ["arms"] [] := T.F_check_arms.binds fun _ _ _ _ _ _ us hl => match us, hl with | [_], _ => rfl
/-- is_key of an int -/
def spKey : Sp := fun vs H Q _ => ∃ i : Int, vs = [.int i] ∧ Q (.bl (decide (-1000000000 ≤ i ∧ i ≤ 1000000000))) H
theorem ok_key (T : Tx K mg A) : FnOk P w K mg base CX0 3 A.f_is_key A.d_is_key ["thing"] spKey := by
  refine T.F_is_key.ok sc_is_key (fun vs H Q E h => ?_) (fun cdv B outer s H vs Q E hr h => ?_)
  · obtain ⟨i, rfl, _⟩ := h
    rfl
  · obtain ⟨i, rfl, q⟩ := h
    obtain ⟨t, hg⟩ := cst T.c_GREATEST_KEY
    refine ⟨_, pss_one (ps_ret (pe_call (ok_ii T) hr (by rfl) T.m_is_integer_from T.F_is_integer_from.kp (b_ii T) .nil pass0
      (pa_cons (pv 0) (pa_cons (pe_un un_neg (pe_glob (by rfl) hg (relI _ _))) (pa_cons (pe_glob (by rfl) hg (relI _ _)) pa_nil))))), ?_⟩
    exact ⟨_, rfl, _, rfl, _, _, _, rfl, .inl ⟨i, rfl, q⟩⟩
theorem b_key (T : Tx K mg A) : L2.Binds K A.d_is_key ["thing"] [] := T.F_is_key.binds fun _ _ _ _ _ _ us hl => match us, hl with | [_], _ => rfl
theorem Sq.len {K : PySem.W.Frag} {H : Hp} {a : Addr} {xs : List V} (h : Sq H a xs) : SqL K H a xs ∨ SqT K H a xs := h.elim (fun e => .inl (SqL.of e)) fun e => .inr (SqT.of e)
/-- keys go in, a tuple of them comes out -/
def spRow (K : PySem.W.Frag) : Sp := fun vs H Q _ => ∃ (a : Addr) (ns : List Int), vs = [.ref a] ∧ Sq H a (ns.map V.int) ∧ ns.length ≤ 12 ∧ (∀ n ∈ ns, -1000000000 ≤ n ∧ n ≤ 1000000000) ∧
  ∀ H' p, Same H H' → H' p = some (.tup (ns.map V.int)) → Q (.ref p) H'
theorem ok_row (T : Tx K mg A) : FnOk P w K mg base CX0 4 A.f_row_of A.d_row_of ["row"] (spRow K) := by
  refine T.F_row_of.ok sc_row_of (fun vs H Q E h => ?_) (fun cdv B outer s H vs Q E hr h => ?_)
  · obtain ⟨a, ns, rfl, _⟩ := h
    rfl
  · obtain ⟨a, ns, rfl, ha, hl, hk, q⟩ := h
    obtain ⟨t, hg⟩ := cst T.c_MOST_PLACES
    refine ⟨_, pss_cons (ps_if (PW.pt (pw_or (pt_not (pt_val (pe_callB call_isiT (by rfl) T.g_isinstance (by decide +kernel) (pa_cons (pv 0) (pa_cons (pe_tup (pa_cons (pe_bltn (v := .ty "list") (by rfl) T.g_list (by decide +kernel) rfl) (pa_cons (pe_bltn (v := .ty "tuple") (by rfl) T.g_tuple (by decide +kernel) rfl) pa_nil))) pa_nil)))))
        (pw_or1 (pt_cmpR op_gt (pe_callB call_len_seq (by rfl) T.g_len PySem.boot_len (pa_cons (pv 0) pa_nil)) (pe_glob (by rfl) hg (relI _ _)) (nomark _))))) (pss_one ps_never) pss_nil)
      (C8.pss_cut (ps_for PassesOwn.never rfl (pi_enS (by rfl) T.g_enumerate (pa_cons (pv 0) pa_nil)) (pg_tup rfl (pgs_cons (pg_name (i := 1) sc_row_of.nd rfl (Or.inl rfl)) (pgs_cons (pg_name (i := 2) sc_row_of.nd rfl (Or.inl rfl)) pgs_nil)))
        (pss_one (ps_if (pt_not (pt_val (pe_call (ok_key T) hr (by rfl) T.m_is_key T.F_is_key.kp (b_key T) .nil pass0 (pa_cons (pv 2) pa_nil)))) (pss_one ps_never) pss_nil)))
      (pss_one (ps_ret (pe_callTy call_tuple_of (by rfl) T.g_tuple (by decide +kernel) (pa_cons (pv 0) pa_nil))))), ?_⟩
    refine ⟨_, rfl, by show 2 ≤ sizeLine; decide, fun tp htp => ?_⟩
    have ha1 : Sq (upd H tp (.tup [.ty "list", .ty "tuple"])) a (ns.map V.int) := ha.same (Same.up htp)
    have isi : ∃ c b1, TyX K (upd H tp (.tup [.ty "list", .ty "tuple"])) (.ref a) (.type c) ∧ PySem.W.kitOne K (.type c) (.type "list") = some b1 ∧ (b1 = false → PySem.W.kitOne K (.type c) (.type "tuple") = some true) := by
      rcases ha1 with h | h
      · exact ⟨"list", true, .base (.lst h), kit_ty (by decide +kernel), fun z => by cases z⟩
      · exact ⟨"tuple", false, .base (.tup h), kit_ty (by decide +kernel), fun _ => kit_ty (by decide +kernel)⟩
    obtain ⟨c, b1, ty, k1, k2⟩ := isi
    refine ⟨_, tp, _, .type c, [.type "list", .type "tuple"], true, rfl, upd_same, .cons (.ty _) (.cons (.ty _) .nil), ty, kitAny_cons k1 (fun z => kitAny_cons (k2 z) (fun z => by cases z) (fun _ => rfl)) (fun _ => rfl), true, rfl, ?_⟩
    refine iteF ⟨_, rfl, a, _, rfl, ha1.len, _, _, rfl, rfl, _, rfl, ite2 (fun z => ?_) (fun _ => ?_)⟩
    · exfalso
      rw [List.length_map] at z
      have := of_decide_eq_true z
      omega
    refine ⟨fun σ H' => ∃ z y, σ = [some (.ref a), z, y] ∧ Same H H', ?_, ?_⟩
    · rcases ha with ha | ha
      · refine ⟨_, rfl, a, _, rfl, .inl ⟨SqL.of ((Same.up htp) _ _ ha), for_it (walk_enum (xs := ns.map V.int)) (fun i σ H' => ∃ z y, σ = [some (.ref a), z, y] ∧ Same H H') ⟨none, none, rfl, Same.up htp⟩ (fun i σ H' _ ⟨_, _, _, s⟩ => SqL.of (s _ _ ha)) ?_ ?_⟩⟩
        · rintro i v σ H2 H3 hi ⟨z, y, rfl, s⟩ ⟨T', x, x2, rfl, hT, rfl, e1, e2⟩
          obtain ⟨hi', rfl⟩ := ints_at e2
          cases e1
          refine ⟨_, _, rfl, SqT.of upd_same, rfl, _, _, rfl, _, _, rfl, rfl, ?_⟩
          refine ⟨_, rfl, _, rfl, _, rfl, ?_⟩
          rw [decide_eq_true (hk _ (List.getElem_mem hi'))]
          exact iteF ⟨_, _, rfl, s.trans (Same.up hT)⟩
        · rintro σ H2 ⟨z, y, rfl, s⟩
          exact ⟨_, _, rfl, s⟩
      · refine ⟨_, rfl, a, _, rfl, .inr ⟨SqT.of ((Same.up htp) _ _ ha), for_it (walk_enumT (xs := ns.map V.int)) (fun i σ H' => ∃ z y, σ = [some (.ref a), z, y] ∧ Same H H') ⟨none, none, rfl, Same.up htp⟩ (fun i σ H' _ ⟨_, _, _, s⟩ => SqT.of (s _ _ ha)) ?_ ?_⟩⟩
        · rintro i v σ H2 H3 hi ⟨z, y, rfl, s⟩ ⟨T', x, x2, rfl, hT, rfl, e1, e2⟩
          obtain ⟨hi', rfl⟩ := ints_at e2
          cases e1
          refine ⟨_, _, rfl, SqT.of upd_same, rfl, _, _, rfl, _, _, rfl, rfl, ?_⟩
          refine ⟨_, rfl, _, rfl, _, rfl, ?_⟩
          rw [decide_eq_true (hk _ (List.getElem_mem hi'))]
          exact iteF ⟨_, _, rfl, s.trans (Same.up hT)⟩
        · rintro σ H2 ⟨z, y, rfl, s⟩
          exact ⟨_, _, rfl, s⟩
    · rintro σ H2 ⟨z, y, rfl, s⟩
      rcases ha with ha | ha
      · exact ⟨_, rfl, a, _, rfl, .inl ⟨SqL.of (s _ _ ha), fun p hp => q _ _ (s.trans (Same.up hp)) upd_same⟩⟩
      · exact ⟨_, rfl, a, _, rfl, .inr ⟨SqT.of (s _ _ ha), q _ _ s (s _ _ ha)⟩⟩
theorem b_row (T : Tx K mg A) : L2.Binds K A.d_row_of ["row"] [] := T.F_row_of.binds fun _ _ _ _ _ _ us hl => match us, hl with | [_], _ => rfl
def spCm : Sp := fun vs H Q _ => ∃ i : Int, vs = [.int i] ∧ (0 ≤ i ∧ i ≤ 12) ∧ Q .non H
theorem ok_cm (T : Tx K mg A) : FnOk P w K mg base CX0 3 A.f_check_many A.d_check_many ["many"] spCm := by
  refine T.F_check_many.ok sc_check_many (fun vs H Q E h => ?_) (fun cdv B outer s H vs Q E hr h => ?_)
  · obtain ⟨i, rfl, _⟩ := h
    rfl
  · obtain ⟨i, rfl, hi, q⟩ := h
    obtain ⟨t, hg⟩ := cst T.c_MOST_PLACES
    refine ⟨_, pss_one (ps_if (pt_not (pt_val (pe_call (ok_ii T) hr (by rfl) T.m_is_integer_from T.F_is_integer_from.kp (b_ii T) .nil pass0
      (pa_cons (pv 0) (pa_cons pe_int (pa_cons (pe_glob (by rfl) hg (relI _ _)) pa_nil)))))) (pss_one ps_never) pss_nil), ?_⟩
    refine ⟨_, rfl, _, _, _, rfl, .inl ⟨i, rfl, _, rfl, ?_⟩⟩
    rw [decide_eq_true hi]
    exact iteF q
theorem b_cm (T : Tx K mg A) : L2.Binds K A.d_check_many ["many"] [] := T.F_check_many.binds fun _ _ _ _ _ _ us hl => match us, hl with | [_], _ => rfl
theorem rg_pl (n : Nat) : rgV 0 (n : Int) = pl n := by
  unfold rgV pl
  rw [show ((n : Int) - 0).toNat = n by omega]
  exact congrArg (fun f => (List.range n).map f) (funext fun i => by rw [Int.zero_add])
def spInit (C : Addr) : Sp := fun vs H Q _ => ∃ (p dx n w : Nat), vs = [.ref p, .int n, .int w] ∧ n ≤ 12 ∧ (1 ≤ w ∧ w ≤ 4) ∧ H p = some (.ins C dx []) ∧
  ∀ (H' : Hp), (∀ b o, H b = some o → b ≠ p → H' b = some o) → TreeAt C H' p n w → Q .non H'
theorem ok_init (T : Tx K mg A) : FnOk P w K mg base CX0 4 A.f_t___init__ A.d_t___init__ ["self", "many", "arms"] (spInit A.C) := by
  refine T.F_t___init__.ok sc_t___init__ (fun vs H Q E h => ?_) (fun cdv B outer s H vs Q E hr h => ?_)
  · obtain ⟨p, dx, n, w, rfl, _⟩ := h
    rfl
  · obtain ⟨p, dx, n, w, rfl, hn, hw, hp, q⟩ := h
    refine ⟨_, PSs.nox (pss_cons (ps_expr (pe_call (ok_ca T) hr (by rfl) T.m_check_arms T.F_check_arms.kp (b_ca T) .nil pass0 (pa_cons (pv 2) pa_nil)))
      (pss_cons (ps_expr (pe_call (ok_cm T) hr (by rfl) T.m_check_many T.F_check_many.kp (b_cm T) .nil pass0 (pa_cons (pv 1) pa_nil)))
      (pss_cons (ps_fld (pv 0) (pv 1) rfl) (pss_cons (ps_fld (pv 0) (pv 2) rfl)
      (pss_one (ps_fld (pv 0) (pe_tupRg rfl (by rfl) T.g_tuple (prg_1 (by rfl) T.g_range (pv 1))) rfl)))))), ?_⟩
    refine ⟨_, rfl, _, rfl, ⟨by omega, by omega⟩, _, rfl, _, rfl, ⟨by omega, by omega⟩, ?_⟩
    refine ⟨_, rfl, _, rfl, p, A.C, dx, _, rfl, hp, T.cT, T.nMany, (by show 0 < 1000; decide), ?_⟩
    refine ⟨_, rfl, _, rfl, p, A.C, dx, _, rfl, upd_same, T.cT, T.nArms, (by show 1 < 1000; decide), ?_⟩
    refine ⟨_, rfl, _, rfl, RgOk.of_le (by omega) (by omega) (by omega) (by omega), fun t ht => ?_⟩
    have npt : p ≠ t := fun z => by
      rw [z, upd_same] at ht
      cases ht
    refine ⟨_, rfl, p, A.C, dx, _, rfl, Eq.trans (upd_ne npt) upd_same, T.cT, T.nPl, (by simp only [putF, n1, if_false]; show 2 < 1000; decide), ?_⟩
    refine q _ (fun b o e hb => ?_) ⟨⟨dx, t, upd_same, ?_⟩, hn, hw⟩
    · have nbt : b ≠ t := ne_of_none (by rw [upd_ne hb, upd_ne hb]; exact e) ht
      rw [upd_ne hb, upd_ne nbt, upd_ne hb, upd_ne hb]
      exact e
    · rw [upd_ne npt.symm, upd_same, rg_pl]
def spOf (K : PySem.W.Frag) (C : Addr) : Sp := fun vs H Q _ => ∃ (a w : Nat) (ns : List Int), vs = [.ref C, .ref a, .int w] ∧ (1 ≤ w ∧ w ≤ 4) ∧ Sq H a (ns.map V.int) ∧ ns.length ≤ 12 ∧ (∀ n ∈ ns, -1000000000 ≤ n ∧ n ≤ 1000000000) ∧
  ∀ (H' : Hp) p, Same H H' → H p = none → TreeAt C H' p ns.length w → Q (.ref p) H'
theorem ok_of (T : Tx K mg A) : FnOk P w K mg base CX0 6 A.f_t_of A.d_t_of ["cls", "row", "arms"] (spOf K A.C) := by
  obtain ⟨mv, kb⟩ := kb_init T
  refine T.F_t_of.ok sc_t_of (fun vs H Q E h => ?_) (fun cdv B outer s H vs Q E hr h => ?_)
  · obtain ⟨a, w, ns, rfl, _⟩ := h
    rfl
  · obtain ⟨a, w, ns, rfl, hw, ha, hl, hk, q⟩ := h
    refine ⟨_, PSs.nox (pss_cons (ps_expr (pe_call (ok_ca T) (hr.mono (by decide)) (by rfl) T.m_check_arms T.F_check_arms.kp (b_ca T) .nil pass0 (pa_cons (pv 2) pa_nil)))
      (pss_one (ps_ret (pe_makeLK (i := 0) T.mkC (ok_init T) hr kb pass0 (pa_cons (pe_callB call_len_seq (by rfl) T.g_len PySem.boot_len (pa_cons (pe_call (ok_row T) (hr.mono (by decide)) (by rfl) T.m_row_of T.F_row_of.kp (b_row T) .nil pass0 (pa_cons (pv 1) pa_nil)) pa_nil)) pa_nil)
        (pk_cons (pv 2) pk_nil) rfl (Or.inl rfl))))), ?_⟩
    refine ⟨_, rfl, _, rfl, ⟨by omega, by omega⟩, rfl, _, rfl, a, ns, rfl, ha, hl, hk, fun H1 p s1 hp => ?_⟩
    refine ⟨p, _, rfl, .inr (SqT.of hp), _, rfl, rfl, rfl, fun x dx nx ndx nex => ?_⟩
    refine ⟨x, dx, ns.length, w, by rw [List.length_map]; rfl, hl, hw, upd_same, fun H2 k2 t2 => ⟨rfl, q H2 x (fun b o e => k2 b o ?_ (ne_of_none (s1 _ _ e) nx)) (s1.free nx) t2⟩⟩
    rw [upd_ne (ne_of_none (s1 _ _ e) nx), upd_ne (ne_of_none (s1 _ _ e) ndx)]
    exact s1 _ _ e
theorem q5 : ¬ (("changes" : Str) = "looks") := by decide +kernel
theorem refl_of {d : PyData} (h : SeqAt.shaped d = true) : PyData.eqv d d = true := PySem.SeqAt.eqv_refl d (SeqAt.canLay_of_shaped h)
theorem sorted_one {xs ys : List Int} (hp : xs.Perm ys) (h1 : xs.Pairwise (· ≤ ·)) (h2 : ys.Pairwise (· ≤ ·)) : xs = ys := List.Perm.eq_of_pairwise (fun x y _ _ h1 h2 => Int.le_antisymm h1 h2) h1 h2 hp
theorem sorted_eqv {z1 z2 a b : List Int} (h1 : z1.Perm a) (w1 : z1.Pairwise (· ≤ ·)) (h2 : z2.Perm b) (w2 : z2.Pairwise (· ≤ ·)) : PyData.eqv (.list (z1.map .int)) (.list (z2.map .int)) = decide (a.Perm b) := by
  rw [show PyData.eqv (.list (z1.map .int)) (.list (z2.map .int)) = decide (z1 = z2) from ints_eqvL z1 z2]
  refine decide_eq_decide.mpr ⟨fun e => ?_, fun p => sorted_one (h1.trans (p.trans h2.symm)) w1 w2⟩
  subst e
  exact h1.symm.trans h2
end
end Tw

set_option Elab.async false
set_option linter.all false
set_option maxRecDepth 100000
set_option maxHeartbeats 2000000
namespace Tw
open PySem PySem.Spec PyProof.Rows L2
section
variable {P : Program} {w : World} {K : PySem.W.Frag} {mg : Str → Option Value} {base : Heap} {A : Ad}
open LamX (ExtN Tabs TabS)
/-! shows: extN_of Sq Sq.same ok_of spOf kb_of RowAt RowsAt RowsAt.get RowsAt.same TreeAt TT AtM AtM.same fdM_row fdM_kept fdM_chains zI zI_vi vi vi_len ok_len b_len ok_iter b_iter Rise spRisG spIsfG sorted_eqv Fal ok_listO sizeLine_eq pl_len plAt pl tf_pl walk_tup walk_list key_at keyAt ixS viAt Acc Acc.start Acc.push Acc.same tupQ rowD rowD_dp rowD_eqv ints_dp ints_eqvL refl_of -/
theorem flat_len {CH : List (List Nat)} {k : Nat} : (∀ C ∈ CH, C.length ≤ k) → CH.flatten.length ≤ k * CH.length := by
  induction CH with
  | nil => exact fun _ => Nat.le_refl _
  | cons C CH ih =>
    intro h
    have h1 := ih fun D hD => h D (List.mem_cons_of_mem _ hD)
    have h2 := h C List.mem_cons_self
    rw [List.flatten_cons, List.length_append, List.length_cons, Nat.mul_succ]
    omega
theorem zI_perm {X Y : List Nat} (h : (zI X).Perm (zI Y)) : X.Perm Y := by
  have h1 := h.map Int.toNat
  unfold zI at h1
  rw [List.map_map, List.map_map] at h1
  have e : ∀ L : List Nat, L.map (Int.toNat ∘ fun (x : Nat) => ((x : Nat) : Int)) = L := fun L => by
    induction L with
    | nil => rfl
    | cons a L ih => rw [List.map_cons, ih]; rfl
  rwa [e, e] at h1
def spShowG (A : Ad) : Sp := fun vs H Q _ => ∃ (p r w n : Nat) (ks x0 : List Int) (X : List Nat) (CH : List (List Nat)), vs = [.ref p, .ref r, .int w] ∧ (1 ≤ w ∧ w ≤ 4) ∧ AtM A.CM H p x0 X CH ∧ Sq H r (ks.map V.int) ∧ ks.length = n ∧ n ≤ 12 ∧ (∀ k ∈ ks, -1000000000 ≤ k ∧ k ≤ 1000000000) ∧
  x0.length = n ∧ CH.length ≤ 20 ∧ X.length ≤ 20 ∧ (∀ C ∈ CH, C.length ≤ 40) ∧
  ∀ (H' : Hp) (b : Bool), Same H H' → (b = true ↔ ShowP w n ks x0 X CH) → Q (.bl b) H'
theorem ok_mshG (T : Tx K mg A) : FnOk P w K mg base CX0 9 A.f_m_shows A.d_m_shows ["self", "row", "arms"] (spShowG A) := by
  obtain ⟨mo, ko⟩ := kb_of T
  refine T.F_m_shows.ok sc_m_shows (fun vs H Q E h => ?_) (fun cdv B outer s H vs Q E hr h => ?_)
  · obtain ⟨p, r, w, n, ks, x0, X, CH, rfl, _⟩ := h
    rfl
  · obtain ⟨p, r, w1, n, ks, x0, X, CH, rfl, hw, am, hrow, hkl, hn, hkb, hxl, hC20, hX20, hC40, q⟩ := h
    have nd := sc_m_shows.nd
    have hu : (B.deeper (envOfC "Mended.shows" (defScope s_m_shows) s.heap.objs.size A.f_m_shows cdv)).units + 64 < cLine := hr.units
    subst hkl
    refine ⟨_, PSs.nox (C8.pss_cut (ps_set (i := 3) nd rfl (Or.inr rfl) (pe_cmethK (pe_glob (v := .ref A.C) (by rfl) T.mC (relR _)) T.cr T.cof (ok_of T) (hr.mono (by decide)) ko pass0 (pa_cons (pv 1) pa_nil) (pk_cons (pv 2) pk_nil)))
      (C8.pss_cut (ps_if (PW.pt (pw_or (pt_not (pt_val (pe_call (ok_risG T) (hr.mono (by decide)) (by rfl) T.m_is_rising T.F_is_rising.kp (b_risG T) .nil pass0 (pa_cons (pe_fld (pv 0) rfl) (pa_cons (pv 3) pa_nil))))) (pw_or1 (pt_cmpR op_ne (pe_callB (r := rLn K) call_len_seq (by rfl) T.g_len PySem.boot_len (pa_cons (pe_fld (pv 0) rfl) pa_nil)) (pe_callB (r := rLn K) call_len_seq (by rfl) T.g_len PySem.boot_len (pa_cons (pe_fld (pv 0) rfl) pa_nil)) (nomark _))))) (pss_one (ps_ret pe_bl)) pss_nil)
      (C8.pss_cut (ps_if (pt_cmpR (op_neD hu) (pe_fld (pv 0) rfl) (pe_callTy (r := rTupK K) call_tupleK (by rfl) T.g_tuple (by decide +kernel) (pa_cons (pe_lc (own := [("place", 4)]) (g := gName 4) rfl nd (pi_own T.D_t___iter__ (ok_iter T) (hr.mono (by decide)) (b_iter T) (pv 3)) (blkOk_by (own := [("place", 4)]) (N := ["self", "row", "arms", "tree", "place", "chain"]) (sc := defScope s_m_shows) (by decide +kernel)) (fun _ _ _ _ _ => pg_name (i := 4) nd rfl (Or.inl rfl)) (fun _ _ _ _ _ => pts_one (pt_cmpR op_eq (pe_ix (r := rIxT K) ix_tup (pe_fldK (K := K) rfl (pv 0) rfl) (pv 4) (fun _ _ => rfl)) (pe_ix (r := rIx K) ix_seq (pv 1) (pv 4) (fun _ _ => rfl)) (nomark _))) (fun _ _ _ _ _ => (pv 4))) pa_nil)) (nomark _)) (pss_one (ps_ret pe_bl)) pss_nil)
      (C8.pss_cut (ps_if (pt_cmpR (op_neD hu) (pe_callB cr_sortedI (by rfl) T.g_sorted (by decide +kernel) (pa_cons (pe_lc2 (own := [("chain", 5), ("place", 4)]) (vs1 := [4]) (g := gName 5) (g1 := gName 4) (tt := tYes) (tt1 := tYes) (wi1 := iTup K (tVar 5)) rfl nd (pi_list (pe_fld (pv 0) rfl)) (blkOk_by (own := [("chain", 5), ("place", 4)]) (N := ["self", "row", "arms", "tree", "place", "chain"]) (sc := defScope s_m_shows) (by decide +kernel)) (by decide) (fun _ _ _ _ _ => pg_name (i := 5) nd rfl (Or.inl rfl)) (fun _ _ _ _ _ => pts_nil) (fun _ _ _ _ _ => pi_tupK (K := K) rfl (pv 5)) (fun _ _ _ _ _ => pg_name (i := 4) nd rfl (Or.inl rfl)) (fun _ _ _ _ _ => pts_nil) (fun _ _ _ _ _ => (pv 4))) pa_nil)) (pe_callTy (call_listO T.D_t___iter__ (ok_iter T) (b_iter T) T.D_t___len__ (ok_len T) (b_len T) (hr.mono (by decide))) (by rfl) T.g_list (by decide +kernel) (pa_cons (pv 3) pa_nil)) (nomark _)) (pss_one (ps_ret pe_bl)) pss_nil)
      (pss_one (ps_ret (pe_callB (cr_all rfl) (by rfl) T.g_all (by decide +kernel) (pa_cons (pe_lc (own := [("chain", 5)]) (g := gName 5) (tt := tYes) rfl nd (pi_list (pe_fld (pv 0) rfl)) (blkOk_by (own := [("chain", 5)]) (N := ["self", "row", "arms", "tree", "place", "chain"]) (sc := defScope s_m_shows) (by decide +kernel)) (fun _ _ _ _ _ => pg_name (i := 5) nd rfl (Or.inl rfl)) (fun _ _ _ _ _ => pts_nil) (fun _ _ _ _ _ => (pe_call (ok_isfG T) (hr.mono (by decide)) (by rfl) T.m_is_falling T.F_is_falling.kp (b_isfG T) .nil pass0 (pa_cons (pv 5) (pa_cons (pv 1) (pa_cons (pv 3) pa_nil)))))) pa_nil)))))))), ?_⟩
    refine ⟨fun σ' H' => ∃ x : Addr, σ' = [some (.ref p), some (.ref r), some (.int w1), some (.ref x), none, none] ∧ Same H H' ∧ TreeAt A.C H' x ks.length w1, ?_, ?_⟩
    · exact ⟨rfl, _, rfl, _, rfl, rfl, rfl, r, w1, ks, rfl, hw, hrow, hn, hkb, fun H2 x s2 p0 t2 => ⟨x, rfl, s2, t2⟩⟩
    rintro σ' H2 ⟨x, rfl, s2, t2⟩
    have am2 := am.same s2
    have hrow2 : Sq H2 r (ks.map V.int) := hrow.imp (s2 _ _) (s2 _ _)
    obtain ⟨dx, t0, t1, tc, xs, a0, a1, ak, ac, ar⟩ := id am2
    obtain ⟨dt, l, g1, g2⟩ := id t2.ob
    have hxsl : xs.length = CH.length := by rw [Paired.length ar, List.length_map]
    refine ⟨fun σ' H' => σ' = [some (.ref p), some (.ref r), some (.int w1), some (.ref x), none, none] ∧ Same H2 H' ∧ Rise w1 x0 ks.length ∧ CH.length = X.length, ?_, ?_⟩
    · refine ⟨_, rfl, p, A.CM, dx, _, _, rfl, a0, T.cTM, T.mRow, fdM_row _ _ _, _, rfl, t0, x, ks.length, w1, x0, rfl, t2, .inr a1, hxl, hn, fun H3 br s3 hbr => ?_⟩
      cases br with
      | false => exact ⟨false, rfl, iteT (iteT (q H3 false (s2.trans s3) ⟨fun z => (by cases z), fun z => absurd (hbr.mpr z.rise) Bool.false_ne_true⟩))⟩
      | true =>
      refine ⟨true, rfl, ?_⟩
      refine iteF ?_
      by_cases hCX : CH.length = X.length
      case neg =>
        refine ⟨_, rfl, p, A.CM, dx, _, _, rfl, s3 _ _ a0, T.cTM, T.mChains, fdM_chains _ _ _, tc, xs, rfl, .inl (SqL.of (s3 _ _ ac)), _, rfl, p, A.CM, dx, _, _, rfl, s3 _ _ a0, T.cTM, T.mKept, fdM_kept _ _ _, t1, vi X, rfl, .inr (SqT.of (s3 _ _ ak)), rfl, true, ?_, ?_⟩
        · rw [vi_len, hxsl]
          exact congrArg V.bl (by rw [decide_eq_false (fun z => hCX (by injection z with z; omega))]; rfl)
        exact iteT (q H3 false (s2.trans s3) ⟨fun z => (by cases z), fun z => absurd z.len hCX⟩)
      refine ⟨_, rfl, p, A.CM, dx, _, _, rfl, s3 _ _ a0, T.cTM, T.mChains, fdM_chains _ _ _, tc, xs, rfl, .inl (SqL.of (s3 _ _ ac)), _, rfl, p, A.CM, dx, _, _, rfl, s3 _ _ a0, T.cTM, T.mKept, fdM_kept _ _ _, t1, vi X, rfl, .inr (SqT.of (s3 _ _ ak)), rfl, false, ?_, ?_⟩
      · rw [vi_len, hxsl, hCX]
        exact congrArg V.bl (by rw [decide_eq_true rfl]; rfl)
      exact iteF ⟨rfl, s3, hbr.mp rfl, hCX⟩
    rintro σ' H3 ⟨rfl, s3, hrs, hCX⟩
    refine ⟨fun σ' H' => ∃ x4 : Option V, σ' = [some (.ref p), some (.ref r), some (.int w1), some (.ref x), x4, none] ∧ Same H2 H' ∧ X = (List.range ks.length).filter (fun i => decide (keyAt x0 i = keyAt ks i)), ?_, ?_⟩
    · refine ⟨_, rfl, p, A.CM, dx, _, _, rfl, s3 _ _ a0, T.cTM, T.mKept, fdM_kept _ _ _, _, rfl, x, dt, _, l, _, rfl, s3 _ _ g1, tf_pl _ _ _, SqT.of (s3 _ _ g2), fun D nD => ?_⟩
      refine lc_it (walk_tup (xs := pl ks.length)) (fun j H' => Acc H3 D (vi ((List.range j).filter fun i => decide (keyAt x0 i = keyAt ks i))) H') (Acc.start nD) (fun j H' _ a => SqT.of (a.s _ _ (s3 _ _ g2))) ?_ ?_
      · rintro j y H5 H6 hj a ⟨rfl, hy⟩
        obtain ⟨hj2, rfl⟩ := plAt hy
        have s36 := s3.trans a.s
        have hfl := List.length_filter_le (fun i => decide (keyAt x0 i = keyAt ks i)) (List.range j)
        rw [List.length_range] at hfl
        rw [List.range_succ, List.filter_append]
        refine ⟨rfl, _, rfl, p, A.CM, dx, _, _, rfl, s36 _ _ a0, T.cTM, T.mRow, fdM_row _ _ _, _, rfl, t0, _, _, _, rfl, rfl, SqT.of (s36 _ _ a1), key_at (show j < x0.length by omega), _, rfl, _, rfl, ixS (hrow2.imp (s36 _ _) (s36 _ _)) (key_at hj2) ⟨rfl, _, rfl, ?_⟩⟩
        by_cases he : keyAt x0 j = keyAt ks j
        · refine ite_b (c := true) (decide_eq_true (by rw [he])) (iteT ⟨_, rfl, ?_⟩)
          rw [show [j].filter (fun i => decide (keyAt x0 i = keyAt ks i)) = [j] from List.filter_cons_of_pos (p := fun i => decide (keyAt x0 i = keyAt ks i)) (decide_eq_true he)]
          generalize (List.range j).filter (fun i => decide (keyAt x0 i = keyAt ks i)) = F at *
          refine ⟨_, a.a, by rw [vi_len, sizeLine_eq]; omega, ?_⟩
          rw [show vi (F ++ [j]) = vi F ++ [V.int (j : Nat)] by unfold vi; rw [List.map_append]; rfl]
          exact a.push
        · refine ite_b (c := false) (decide_eq_false fun z => he (by injection z)) (iteF ?_)
          rw [show [j].filter (fun i => decide (keyAt x0 i = keyAt ks i)) = [] from List.filter_cons_of_neg (p := fun i => decide (keyAt x0 i = keyAt ks i)) (by rw [decide_eq_false he]; exact Bool.false_ne_true), List.append_nil]
          exact a
      · intro H4 a
        rw [pl_len] at a
        unfold tNil
        refine tupQ (.inl a.a) fun H6 t6 s6 e6 => ?_
        have s46 := (s3.trans a.s).trans s6
        refine ⟨_, _, rowD_dp (r := zI X) ⟨t1, rfl, by rw [zI_vi]; exact s46 _ _ ak⟩, rowD_dp (r := zI ((List.range ks.length).filter fun i => decide (keyAt x0 i = keyAt ks i))) ⟨t6, rfl, by rw [zI_vi]; exact e6⟩, shaped_ints _, shaped_ints _, _, rfl, ?_⟩
        rw [rowD_eqv]
        by_cases hXe : X = (List.range ks.length).filter (fun i => decide (keyAt x0 i = keyAt ks i))
        · rw [decide_eq_true (congrArg zI hXe)]
          exact iteF ⟨_, rfl, s46, hXe⟩
        · rw [decide_eq_false fun z => hXe (zI_inj z)]
          exact iteT (q _ false (s2.trans s46) ⟨fun z => (by cases z), fun z => absurd z.kept hXe⟩)
    rintro σ' H4 ⟨x4, rfl, s4, hXe⟩
    refine ⟨fun σ' H' => ∃ x4 x5 : Option V, σ' = [some (.ref p), some (.ref r), some (.int w1), some (.ref x), x4, x5] ∧ Same H2 H' ∧ CH.flatten.Perm (List.range ks.length), ?_, ?_⟩
    · have hfl := flat_len hC40
      have cl := hC40
      refine ⟨_, rfl, p, A.CM, dx, _, _, rfl, s4 _ _ a0, T.cTM, T.mChains, fdM_chains _ _ _, tc, rfl, ⟨_, SqL.of (s4 _ _ ac)⟩, fun D nD => ?_⟩
      refine walk_gen (walk_list (xs := xs)) (fun m H' => Acc H4 D (vi (CH.take m).flatten) H') (Acc.start nD) (fun m H' _ a => SqL.of (a.s _ _ (s4 _ _ ac))) ?_ ?_
      · rintro m y H5o H5 hm a ⟨rfl, hy⟩
        obtain ⟨hm2, t, rfl, et⟩ := ((ar.same s4).same a.s).get hy
        rw [List.length_map] at hm2
        rw [List.getElem_map, zI_vi] at et
        have hC := List.getElem_mem hm2
        have hl1 : (CH.take m).flatten.length ≤ 40 * CH.length := by
          have h : CH.flatten.length = (CH.take m).flatten.length + (CH.drop m).flatten.length := by rw [← List.length_append, ← List.flatten_append, List.take_append_drop]
          omega
        rw [List.take_succ_eq_append_getElem hm2, List.flatten_append]
        generalize CH[m] = C at *
        have hl2 := cl C hC
        rw [show [C].flatten = C by simp]
        generalize (CH.take m).flatten = F at *
        refine ⟨rfl, iteT (B := Acc H4 D (vi (F ++ C)) H5) ?_⟩
        refine ⟨_, rfl, t, rfl, ⟨_, SqT.of et⟩, ?_⟩
        refine walk_gen (walk_tup (xs := vi C)) (fun j H' => Acc H4 D (vi (F ++ C.take j)) H' ∧ H' t = some (.tup (vi C))) ⟨by rw [List.take_zero, List.append_nil]; exact a, et⟩ (fun j H' _ h => SqT.of h.2) ?_ ?_
        · rintro j z H6o H6 hj ⟨a6, e6⟩ ⟨rfl, hz⟩
          obtain ⟨hj2, rfl⟩ := viAt hz
          rw [List.take_succ_eq_append_getElem hj2, ← List.append_assoc]
          have hl3 : (C.take j).length ≤ 40 := by rw [List.length_take]; omega
          generalize C[j] = c at *
          refine ⟨rfl, iteT (B := Acc H4 D (vi (F ++ C.take j ++ [c])) H6 ∧ H6 t = some (.tup (vi C))) ⟨_, rfl, _, a6.a, by rw [vi_len, List.length_append, sizeLine_eq]; omega, ?_, ?_⟩⟩
          · rw [show vi (F ++ C.take j ++ [c]) = vi (F ++ C.take j) ++ [V.int (c : Nat)] by unfold vi; rw [List.map_append]; rfl]
            exact a6.push
          · rw [upd_ne (ne_of e6 a6.a (by intro y; cases y))]
            exact e6
        · rintro H6 ⟨a6, _⟩
          rw [vi_len, List.take_length] at a6
          exact a6
      · intro H5 a
        rw [hxsl, List.take_length] at a
        have s45 := s4.trans a.s
        refine ⟨D, zI CH.flatten, rfl, SqL.of (by rw [zI_vi]; exact a.a), fun ns' q5 hp5 hs5 nq5 => ?_⟩
        have s6 := Same.up (o := .lst (ns'.map V.int)) nq5
        have s46 := s45.trans s6
        refine ⟨_, rfl, x, dt, _, l, pl ks.length, rfl, s46 _ _ g1, tf_pl _ _ _, SqT.of (s46 _ _ g2), by rw [pl_len]; omega, ⟨x, ks.length, w1, rfl, t2.same s46, ks.length, rfl, by omega, rfl⟩, fun c nc => ?_⟩
        have s7 := Same.up (o := .lst (pl ks.length)) nc
        have epl : pl ks.length = (zI (List.range ks.length)).map V.int := by rw [zI_vi]; rfl
        have hpr : ((zI (List.range ks.length))).Pairwise (· ≤ ·) := by
          unfold zI
          rw [List.pairwise_map]
          exact List.pairwise_lt_range.imp fun h => by omega
        refine ⟨.list (ns'.map PyData.int), .list ((zI (List.range ks.length)).map PyData.int), .lst (SqL.of (s7 _ _ upd_same)) (ints_dp _ _ _), .lst (SqL.of (upd_same.trans (by rw [epl]))) (ints_dp _ _ _), shaped_ints _, shaped_ints _, _, rfl, ?_⟩
        rw [sorted_eqv hp5 hs5 (List.Perm.refl _) hpr]
        by_cases hpm : CH.flatten.Perm (List.range ks.length)
        · rw [decide_eq_true (show (zI CH.flatten).Perm (zI (List.range ks.length)) from hpm.map _)]
          exact iteF ⟨_, _, rfl, s46.trans s7, hpm⟩
        · rw [decide_eq_false (show ¬ (zI CH.flatten).Perm (zI (List.range ks.length)) from fun z => hpm (zI_perm z))]
          exact iteT (q _ false (s2.trans (s46.trans s7)) ⟨fun z => (by cases z), fun z => absurd z.chs.pm hpm⟩)
    rintro σ' H5 ⟨x4, x5, rfl, s5, hpm⟩
    refine ⟨_, rfl, p, A.CM, dx, _, _, rfl, s5 _ _ a0, T.cTM, T.mChains, fdM_chains _ _ _, tc, rfl, ⟨_, SqL.of (s5 _ _ ac)⟩, fun D nD => ?_⟩
    refine lc_it (walk_list (xs := xs)) (fun m H' => ∃ bs : List Bool, Acc H5 D (bs.map V.bl) H' ∧ bs.length = m ∧ (bs.all id = true ↔ ∀ C ∈ CH.take m, C ≠ [] ∧ StepsP w1 ks C)) ⟨[], Acc.start nD, rfl, fun _ C hC => (by rw [List.take_zero] at hC; cases hC), fun _ => rfl⟩ (fun m H' _ ⟨_, a, _⟩ => SqL.of (a.s _ _ (s5 _ _ ac))) ?_ ?_
    · rintro m y H6o H6 hm ⟨bs, a, hbl, hbs⟩ ⟨rfl, hy⟩
      obtain ⟨hm2, t, rfl, et⟩ := ((ar.same s5).same a.s).get hy
      rw [List.length_map] at hm2
      rw [List.getElem_map, zI_vi] at et
      have hC := List.getElem_mem hm2
      rw [List.take_succ_eq_append_getElem hm2]
      generalize CH[m] = C at *
      have s56 := s5.trans a.s
      have hlen : C.length ≤ ks.length := by
        have := (List.sublist_flatten_of_mem hC).length_le
        rw [hpm.length_eq, List.length_range] at this
        exact this
      have hmem : ∀ y ∈ C, y < ks.length := fun y hy => List.mem_range.mp (hpm.mem_iff.mp (List.mem_flatten.mpr ⟨C, hC, hy⟩))
      refine ⟨rfl, iteT (B := ∃ bs : List Bool, Acc H5 D (bs.map V.bl) H6 ∧ bs.length = m + 1 ∧ (bs.all id = true ↔ ∀ C' ∈ CH.take m ++ [C], C' ≠ [] ∧ StepsP w1 ks C')) ?_⟩
      refine ⟨_, rfl, _, rfl, _, rfl, t, r, x, ks.length, w1, ks, C, rfl, t2.same s56, hrow2.imp (s56 _ _) (s56 _ _), rfl, hn, et, hlen, hmem, fun H7 b s7 hb => ?_⟩
      have a7 := a.same s7
      refine ⟨_, a7.a, by rw [List.length_map, sizeLine_eq]; omega, bs ++ [b], ?_, by rw [List.length_append, hbl]; rfl, ?_⟩
      · rw [List.map_append]
        exact a7.push
      · rw [List.all_append, Bool.and_eq_true, hbs, show ([b].all id = true) = (b = true) by simp, hb]
        refine ⟨fun ⟨z1, z2⟩ D hD => ?_, fun z => ⟨fun D hD => z D (List.mem_append_left _ hD), z C (List.mem_append_right _ (List.mem_singleton.mpr rfl))⟩⟩
        rcases List.mem_append.mp hD with hD | hD
        · exact z1 D hD
        · rw [List.mem_singleton.mp hD]
          exact z2
    · rintro H6 ⟨bs, a, hbl, hbs⟩
      rw [hxsl, List.take_length] at hbs
      exact ⟨D, bs, rfl, SqL.of a.a, q H6 _ (s2.trans (s5.trans a.s)) (hbs.trans ⟨fun z => ⟨hrs, hCX, hXe, hpm, z⟩, fun z => z.chs.ch⟩)⟩
theorem kb_mshG (T : Tx K mg A) : ∃ mv : List Value, KBn K A.d_m_shows ["self", "row", "arms"] 2 ["arms"] (fun us ws => us ++ (mv ++ ws)) (fun vs zs => vs ++ zs) := by
  obtain ⟨mv, h⟩ := T.F_m_shows.kbinds0 (ps := ["self", "row", "arms"]) 2 ["arms"] [] (fun us mv ws => us ++ (mv ++ ws)) (by simp) (by simp) (fun r1 r2 r3 => r1.append (r2.append r3))
    (fun D doc pm an cdv ct us mv ws h1 h2 h3 => by
      match us, mv, ws, h1, h2, h3 with
      | [a, b], [], [c], _, _, _ => rfl)
  exact ⟨mv, h⟩

end
end Tw

set_option Elab.async false
set_option linter.all false
set_option maxRecDepth 100000
set_option maxHeartbeats 2000000
namespace Tw
open PySem PySem.Spec PyProof.Rows L2
section
variable {P : Program} {w : World} {K : PySem.W.Frag} {mg : Str → Option Value} {base : Heap} {A : Ad}
open LamX (ExtN Tabs TabS)
theorem b_lway (T : Tx K mg A) : L2.Binds K A.d__law_way ["wide", "place"] [] := T.F__law_way.binds fun _ _ _ _ _ _ us hl => match us, hl with | [_, _], _ => rfl
abbrev NP := List (Nat × Nat)
def ctL (C : NP) (m : Nat) : Nat := ((C.filter fun x => decide (x.1 &&& m = x.1)).map (·.2)).sum
def hmS (S : NP) (h : Nat) (C : NP) : NP := (S.filter fun x => decide (x.2 = h)).map fun x => (x.1, ctL C x.1)
/-- by the counts of the different keys, ascending -/
def hmC (S : NP) : List Nat → Nat → NP → NP
  | [], _, C => C
  | g :: gs, h, C => hmC S gs (h + g) (hmS S (h + g) C)
theorem way_len : ∀ w, w < 5 → ∀ p, p < 13 → 1 ≤ w → (wayL w p).length ≤ 13 := by decide +kernel
def spLPar : Sp := fun vs H Q _ => ∃ (w i : Nat), vs = [.int w, .int i] ∧ (1 ≤ w ∧ w ≤ 4) ∧ 1 ≤ i ∧ Q (.int ((i - 1) / w : Nat)) H
theorem ok_lpar (T : Tx K mg A) : FnOk P w K mg base CX0 2 A.f__law_parent A.d__law_parent ["wide", "place"] spLPar := by
  refine T.F__law_parent.ok sc__law_parent (fun vs H Q E h => ?_) (fun cdv B outer s H vs Q E hr h => ?_)
  · obtain ⟨w, i, rfl, _⟩ := h
    rfl
  · obtain ⟨w, i, rfl, hw, hi, q⟩ := h
    refine ⟨_, pss_one (ps_ret (pe_op op_fdivN (pe_callTy call_int1 (by rfl) T.g_int (by decide +kernel) (pa_cons (pe_op op_sub (pv 1) pe_int) pa_nil)) (pv 0))), ?_⟩
    refine ⟨_, rfl, _, _, rfl, rfl, .inl ⟨_, rfl, _, rfl, _, _, rfl, rfl, ⟨by omega, by omega⟩, ?_⟩⟩
    have e : Int.fdiv ((i : Int) - 1) (w : Int) = ((i - 1) / w : Nat) := by
      rw [Int.fdiv_eq_ediv_of_nonneg _ (by omega), show ((i : Int) - 1) = ((i - 1 : Nat) : Int) by omega]
      rfl
    show Q (V.int (Int.fdiv ((i : Int) - 1) (w : Int))) H
    rw [e]
    exact q
theorem b_lpar (T : Tx K mg A) : L2.Binds K A.d__law_parent ["wide", "place"] [] := T.F__law_parent.binds fun _ _ _ _ _ _ us hl => match us, hl with | [_, _], _ => rfl
def spLWay : Sp := fun vs H Q _ => ∃ (w i : Nat), vs = [.int w, .int i] ∧ (1 ≤ w ∧ w ≤ 4) ∧ i ≤ 12 ∧ ∀ H' q, Same H H' → H q = none → H' q = some (.lst (vi (wayL w i))) → Q (.ref q) H'
theorem up_head : ∀ w, w < 5 → ∀ p, p < 13 → 1 ≤ w → upL w p = p :: (upL w p).tail := by decide +kernel
theorem ok_lway (T : Tx K mg A) : FnOk P w K mg base CX0 3 A.f__law_way A.d__law_way ["wide", "place"] spLWay := by
  refine T.F__law_way.ok sc__law_way (fun vs H Q E h => ?_) (fun cdv B outer s H vs Q E hr h => ?_)
  · obtain ⟨w, i, rfl, _⟩ := h
    rfl
  · obtain ⟨w, i, rfl, hw, hi, q⟩ := h
    have nd := sc__law_way.nd
    refine ⟨_, pss_cons (ps_set (i := 2) nd rfl (Or.inl rfl) (pe_lst (pa_cons (pv 1) pa_nil)))
      (pss_cons (ps_for PassesOwn.never rfl (pi_range1 rfl T.g_range (pa_cons pe_int pa_nil)) (pg_name (i := 3) nd rfl (Or.inl rfl))
        (pss_cons (ps_if (pt_cmpR op_eq (pe_ix ix_list (pv 2) pe_int (fun _ _ => rfl)) pe_int (nomark _)) (pss_one (ps_ret (pv 2))) pss_nil)
        (pss_one (ps_set (i := 2) nd rfl (Or.inl rfl) (pe_op op_cat (pe_lst (pa_cons (pe_call (ok_lpar T) hr (by rfl) T.m__law_parent T.F__law_parent.kp (b_lpar T) .nil pass0 (pa_cons (pv 0) (pa_cons (pe_ix ix_list (pv 2) pe_int (fun _ _ => rfl)) pa_nil))) pa_nil)) (pv 2))))))
      (pss_one (ps_ret (pv 2)))), ?_⟩
    refine ⟨_, rfl, by show 1 ≤ sizeLine; decide, fun d hd => ?_⟩
    refine ⟨20, rfl, by decide, by decide, for_range (n := 20) (fun k σ H' => ∃ (c : Nat) (L : List Nat) (a : Addr) (z : Option V), σ = [some (.int w), some (.int i), some (.ref a), z] ∧ Same H H' ∧ H a = none ∧ H' a = some (.lst (vi (c :: L))) ∧
      wayL w i = (upL w c).tail.reverse ++ (c :: L) ∧ c + k ≤ 12) ⟨i, [], d, none, rfl, Same.up hd, hd, upd_same, ?_, by omega⟩ ?_ ?_⟩
    · unfold wayL
      have h := up_head w (by omega) i (by omega) hw.1
      rw [h, List.reverse_cons]
      rfl
    · rintro k σ H' hk ⟨c, L, a, z, rfl, s1, a0, ha, eq, hc⟩
      have hat : atI (vi (c :: L)) 0 = some (V.int (c : Nat)) := atI_nat (j := 0) rfl
      refine ⟨_, rfl, a, _, _, _, rfl, rfl, SqL.of ha, hat, rfl, _, rfl, ?_⟩
      by_cases h0 : c = 0
      · rw [decide_eq_true (show V.int (c : Nat) = V.int 0 by rw [h0]; rfl)]
        refine iteT ⟨_, rfl, q _ a s1 a0 ?_⟩
        subst h0
        have e0 := up_eq w (by omega) 0 (by omega) hw.1
        rw [if_pos rfl] at e0
        rw [e0] at eq
        rw [ha, eq]
        rfl
      · rw [decide_eq_false (show ¬ V.int (c : Nat) = V.int 0 by intro z; injection z with z; omega)]
        refine iteF ?_
        have hlt : (c - 1) / w < c := Nat.lt_of_le_of_lt (Nat.div_le_self _ _) (by omega)
        have e1 := up_eq w (by omega) c (by omega) hw.1
        rw [if_neg h0] at e1
        have e2 := up_head w (by omega) ((c - 1) / w) (by omega) hw.1
        have hlen : (c :: L).length ≤ 13 := by
          have h3 := way_len w (by omega) i (by omega) hw.1
          rw [eq, List.length_append] at h3
          omega
        refine ⟨_, rfl, _, rfl, a, _, _, _, rfl, rfl, SqL.of ha, hat, w, c, rfl, hw, by omega, by show 1 ≤ sizeLine; decide, fun a2 ha2 => ?_⟩
        have s2 : Same H' (upd H' a2 (.lst [V.int ((c - 1) / w : Nat)])) := Same.up ha2
        refine ⟨_, rfl, a2, a, _, _, rfl, rfl, upd_same, s2 _ _ ha, ?_, fun a3 ha3 => ?_⟩
        · rw [vi_len]
          exact Nat.le_of_lt (small1000 (by rw [List.length_singleton]; omega))
        · refine ⟨(c - 1) / w, c :: L, a3, _, rfl, s1.trans (s2.trans (Same.up ha3)), (s1.trans s2).free ha3, upd_same, ?_, by omega⟩
          rw [eq, e1, List.tail_cons]
          conv => lhs; rw [e2]
          rw [List.reverse_cons, List.append_assoc]
          rfl
    · rintro σ H' ⟨c, L, a, z, rfl, s1, a0, ha, eq, hc⟩
      omega
theorem up_self : ∀ w, w < 5 → ∀ p, p < 13 → 1 ≤ w → p ∈ wayL w p := by decide +kernel
end
end Tw

set_option Elab.async false
set_option linter.all false
set_option maxRecDepth 100000
set_option maxHeartbeats 2000000
namespace Tw
open PySem PySem.Spec PyProof.Rows L2
section
variable {P : Program} {w : World} {K : PySem.W.Frag} {mg : Str → Option Value} {base : Heap} {A : Ad}
open LamX (ExtN Tabs TabS)
/-! chains, whatever they are: sorted_eqv extN_of Sq Sq.same RowAt RowsAt RowsAt.get RowsAt.same TT zI zI_vi vi vi_len ok_lway b_lway Fal up_self sizeLine_eq walk_list walk_tup key_at keyAt ixS viAt Acc Acc.start Acc.push Acc.same rowD rowD_dp rowD_eqv ints_dp ints_eqvL mem_vi vi_flat slTup cut_from rg_pl pl -/
def spLacG : Sp := fun vs H Q _ => ∃ (r w c n : Nat) (ks : List Int) (CH : List (List Nat)) (xs : List V), vs = [.ref r, .int w, .ref c] ∧ (1 ≤ w ∧ w ≤ 4) ∧ Sq H r (ks.map V.int) ∧ ks.length = n ∧ n ≤ 12 ∧ H c = some (.lst xs) ∧ RowsAt H xs (CH.map zI) ∧ CH.length ≤ 20 ∧ (∀ C ∈ CH, C.length ≤ 40) ∧
  ∀ (H' : Hp) (b : Bool), Same H H' → (b = true ↔ ChP w n ks CH) → Q (.bl b) H'
theorem ok_lacG (T : Tx K mg A) : FnOk P w K mg base CX0 6 A.f__law_are_chains A.d__law_are_chains ["row", "wide", "chains"] spLacG := by
  refine T.F__law_are_chains.ok sc__law_are_chains (fun vs H Q E h => ?_) (fun cdv B outer s H vs Q E hr h => ?_)
  · obtain ⟨r, w, c, n, ks, CH, xs, rfl, _⟩ := h
    rfl
  · obtain ⟨r, w1, c, n, ks, CH, xs, rfl, hw, hrow, hkl, hn, ec, hrx, hCl, cl, q⟩ := h
    have nd := sc__law_are_chains.nd
    have hu := hr.units
    subst hkl
    have hxl : xs.length = CH.length := by rw [Paired.length hrx, List.length_map]
    have hfl := flat_len cl
    have bad : ∀ {H' : Hp}, Same H H' → (∃ C ∈ CH, ¬ (C ≠ [] ∧ (∀ y ∈ C, y < ks.length) ∧ StepsP w1 ks C)) → Q (.bl false) H' := fun s ⟨C, hC, hb⟩ =>
      q _ false s ⟨fun z => (by cases z), fun z => absurd ⟨(z.ch C hC).1, fun y hy => List.mem_range.mp (z.pm.mem_iff.mp (List.mem_flatten.mpr ⟨C, hC, hy⟩)), (z.ch C hC).2⟩ hb⟩
    refine ⟨_, PSs.nox (C8.pss_cut (ps_for PassesOwn.never rfl (pi_list (pv 2)) (pg_name (i := 3) nd rfl (Or.inl rfl)) (C8.pss_cut (ps_if (PW.pt (pw_or (pt_cmpR (op_eqD hu) (pv 3) (pe_tup pa_nil) (nomark _)) (pw_or1 (pt_val (pe_callB (cr_any rfl) (by rfl) T.g_any (by decide +kernel) (pa_cons (pe_lc (own := [("place", 7)]) (g := gName 7) (tt := tYes) rfl nd (pi_tup (pv 3)) (blkOk_by (own := [("place", 7)]) (N := ["row", "wide", "chains", "chain", "one", "other", "every", "place"]) (sc := defScope s__law_are_chains) (by decide +kernel)) (fun _ _ _ _ _ => pg_name (i := 7) nd rfl (Or.inl rfl)) (fun _ _ _ _ _ => pts_nil) (fun _ _ _ _ _ => (pe_not (pe_chain op_le op_lt pe_int (pv 7) (pe_callB (r := rLn K) call_len_seq (by rfl) T.g_len PySem.boot_len (pa_cons (pv 0) pa_nil)))))) pa_nil)))))) (pss_one (ps_ret pe_bl)) pss_nil)
      (pss_one (ps_for PassesOwn.never rfl (Zm.pi_zipM true true (by rfl) T.g_zip (pa_cons (pv 3) (pa_cons (pe_slice (r := rSlA K) sl_tupA (pv 3) (po_some pe_int) po_none) pa_nil))) (pg_tup rfl (pgs_cons (pg_name (i := 4) nd rfl (Or.inl rfl)) (pgs_cons (pg_name (i := 5) nd rfl (Or.inl rfl)) pgs_nil))) (C8.pss_cut (ps_if (PW.pt (pw_or (pt_cmpR op_eq (pv 4) (pv 5) (nomark _)) (pw_or1 (pt_cmpR (r := L2.rIn K true) op_notIn_seq (pv 4) (pe_call (ok_lway T) (hr.mono (by decide)) (by rfl) T.m__law_way T.F__law_way.kp (b_lway T) .nil pass0 (pa_cons (pv 1) (pa_cons (pv 5) pa_nil))) (by rfl))))) (pss_one (ps_ret pe_bl)) pss_nil)
      (pss_one (ps_if (pt_not (pt_cmpR op_lt (pe_ix (r := rIx K) ix_seq (pv 0) (pv 5) (fun _ _ => rfl)) (pe_ix (r := rIx K) ix_seq (pv 0) (pv 4) (fun _ _ => rfl)) (nomark _))) (pss_one (ps_ret pe_bl)) pss_nil)))))))
      (C8.pss_cut (ps_set (i := 6) nd rfl (Or.inl rfl) (pe_lst pa_nil))
      (C8.pss_cut (ps_for PassesOwn.never rfl (pi_list (pv 2)) (pg_name (i := 3) nd rfl (Or.inl rfl)) (pss_one (ps_set (i := 6) nd rfl (Or.inl rfl) (pe_op op_cat (pv 6) (pe_callTy (r := rListK K) call_listK (by rfl) T.g_list (by decide +kernel) (pa_cons (pv 3) pa_nil))))))
      (pss_one (ps_ret (pe_cmpR (op_eqD hu) (pe_callB cr_sortedI (by rfl) T.g_sorted (by decide +kernel) (pa_cons (pv 6) pa_nil)) (pe_listRg rfl (by rfl) T.g_list (prg_1 (by rfl) T.g_range (pe_callB (r := rLn K) call_len_seq (by rfl) T.g_len PySem.boot_len (pa_cons (pv 0) pa_nil)))) (nomark _))))))), ?_⟩
    refine ⟨fun σ' H' => ∃ x3 x4 x5 : Option V, σ' = [some (.ref r), some (.int w1), some (.ref c), x3, x4, x5, none, none] ∧ Same H H' ∧ ∀ C ∈ CH, C ≠ [] ∧ StepsP w1 ks C, ?_, ?_⟩
    · refine ⟨_, rfl, c, rfl, ⟨_, SqL.of ec⟩, ?_⟩
      refine for_it (walk_list (xs := xs)) (fun m σ' H' => ∃ x3 x4 x5 : Option V, σ' = [some (.ref r), some (.int w1), some (.ref c), x3, x4, x5, none, none] ∧ Same H H' ∧ ∀ C ∈ CH.take m, C ≠ [] ∧ StepsP w1 ks C) ⟨_, _, _, rfl, Same.refl _, fun C hC => (by rw [List.take_zero] at hC; cases hC)⟩ (fun m σ' H' _ ⟨_, _, _, _, s, _⟩ => SqL.of (s _ _ ec)) ?_ (fun σ' H' h => by rw [hxl, List.take_length] at h; exact h)
      rintro m y σ' Ho H2 hm ⟨x3, x4, x5, rfl, s2, hok⟩ ⟨rfl, hy⟩
      obtain ⟨hm2, t, rfl, et⟩ := (hrx.same s2).get hy
      rw [List.length_map] at hm2
      rw [List.getElem_map, zI_vi] at et
      have hC := List.getElem_mem hm2
      rw [List.take_succ_eq_append_getElem hm2]
      generalize CH[m] = C at *
      have hl40 := cl C hC
      have okC : C ≠ [] → StepsP w1 ks C → ∀ D ∈ CH.take m ++ [C], D ≠ [] ∧ StepsP w1 ks D := fun h1 h2 D hD => by
        rcases List.mem_append.mp hD with hD | hD
        · exact hok D hD
        · rw [List.mem_singleton.mp hD]
          exact ⟨h1, h2⟩
      refine ⟨fun σ' H' => σ' = [some (.ref r), some (.int w1), some (.ref c), some (.ref t), x4, x5, none, none] ∧ Same H2 H' ∧ C ≠ [] ∧ ∀ y ∈ C, y < ks.length, ?_, ?_⟩
      · refine ⟨_, rfl, by show 0 ≤ sizeLine; decide, fun e ne => ?_⟩
        have s3 := Same.up (o := .tup []) ne
        refine ⟨rowD (zI C), rowD [], rowD_dp (r := zI C) ⟨t, rfl, by rw [zI_vi]; exact s3 _ _ et⟩, rowD_dp (r := []) ⟨e, rfl, upd_same⟩, shaped_ints _, shaped_ints _, _, rfl, ?_⟩
        rw [rowD_eqv]
        by_cases hC1 : C = []
        · rw [hC1, decide_eq_true (show zI [] = [] from rfl)]
          exact iteT (iteT (bad (s2.trans s3) ⟨C, hC, fun z => z.1 hC1⟩))
        rw [decide_eq_false (show ¬ zI C = [] from fun z => hC1 (List.map_eq_nil_iff.mp z))]
        refine iteF ?_
        generalize upd H2 e (.tup []) = H3 at s3
        have et3 := s3 _ _ et
        refine ⟨_, rfl, t, rfl, ⟨_, SqT.of et3⟩, fun D nD => ?_⟩
        refine lc_it (walk_tup (xs := vi C)) (fun j H' => Acc H3 D (((C.take j).map fun y => !decide (y < ks.length)).map V.bl) H') (Acc.start nD) (fun j H' _ a => SqT.of (a.s _ _ et3)) ?_ ?_
        · rintro j z H5o H5 hj a ⟨rfl, hz⟩
          obtain ⟨hj2, rfl⟩ := viAt hz
          rw [List.take_succ_eq_append_getElem hj2]
          have hl2 : (C.take j).length ≤ 40 := by rw [List.length_take]; omega
          generalize C[j] = y at *
          have row5 : Sq H5 r (ks.map V.int) := hrow.imp ((s2.trans (s3.trans a.s)) _ _) ((s2.trans (s3.trans a.s)) _ _)
          refine ⟨rfl, iteT (B := Acc H3 D (((C.take j ++ [y]).map fun y => !decide (y < ks.length)).map V.bl) H5) ⟨_, rfl, _, _, rfl, rfl, true, congrArg V.bl (decide_eq_true (Int.natCast_nonneg y)), iteT ⟨_, rfl, r, ks.map V.int, rfl, row5.imp SqL.of SqT.of, _, _, rfl, rfl, decide (y < ks.length), ?_, ?_⟩⟩⟩
          · exact congrArg V.bl (decide_eq_decide.mpr (by rw [List.length_map]; omega))
          refine ⟨_, a.a, by rw [List.length_map, List.length_map, sizeLine_eq]; omega, ?_⟩
          rw [List.map_append, List.map_append]
          exact a.push
        · intro H5 a
          rw [vi_len, List.take_length] at a
          refine ⟨D, C.map (fun y => !decide (y < ks.length)), rfl, SqL.of a.a, _, rfl, ?_⟩
          by_cases hlt : ∀ y ∈ C, y < ks.length
          · rw [show (C.map (fun y => !decide (y < ks.length))).any id = false by
              rw [List.any_eq_false]
              intro b hb
              obtain ⟨y, hy, rfl⟩ := List.mem_map.mp hb
              show ¬ (!decide (y < ks.length)) = true
              rw [decide_eq_true (hlt y hy)]
              exact Bool.false_ne_true]
            exact iteF ⟨rfl, s3.trans a.s, hC1, hlt⟩
          · have hex : ∃ y ∈ C, ¬ y < ks.length := Classical.byContradiction fun hn => hlt fun y hy => Classical.byContradiction fun hz => hn ⟨y, hy, hz⟩
            rw [show (C.map (fun y => !decide (y < ks.length))).any id = true by
              obtain ⟨y, hy, hz⟩ := hex
              exact List.any_eq_true.mpr ⟨true, List.mem_map.mpr ⟨y, hy, by rw [decide_eq_false hz]; rfl⟩, rfl⟩]
            exact iteT (bad (s2.trans (s3.trans a.s)) ⟨C, hC, fun z => hlt z.2.1⟩)
      rintro σ' H3 ⟨rfl, s3, hC1, hmC⟩
      have et3 := s3 _ _ et
      refine ⟨_, rfl, _, rfl, 1, rfl, ?_⟩
      unfold tNoPart
      show rSlA K (V.ref t) (some (1 : Int)) none _ _
      refine slTup et3 fun H4 u s4 eu => ?_
      have hcut : cutV (vi C) (some (1 : Int)) none = vi (C.drop 1) := by
        rw [show (1 : Int) = ((1 : Nat) : Int) from rfl, cut_from]
        unfold vi
        rw [List.map_drop]
      rw [hcut] at eu
      have et4 := s4 _ _ et3
      have hmin : C.length - 1 = min (vi C).length (vi (C.drop 1)).length := by rw [vi_len, vi_len, List.length_drop]; omega
      refine ⟨t, u, vi C, vi (C.drop 1), rfl, SqT.of et4, SqT.of eu, ?_⟩
      refine for_it (Zm.walk_zipM (n := C.length - 1) hmin) (fun j σ' H' => ∃ x4 x5 : Option V, σ' = [some (.ref r), some (.int w1), some (.ref c), some (.ref t), x4, x5, none, none] ∧ Same H4 H' ∧ ∀ i, i < j → Fal w1 ks (C.getD i 0) (C.getD (i + 1) 0)) ⟨_, _, rfl, Same.refl _, fun i hi => absurd hi (by omega)⟩ (fun j σ' H' _ ⟨_, _, _, s, _⟩ => ⟨SqT.of (s _ _ et4), SqT.of (s _ _ eu)⟩) ?_ (fun σ' H' ⟨x4, x5, a, b, hst⟩ => ⟨_, x4, x5, a, s2.trans (s3.trans (s4.trans b)), okC hC1 fun i hi => hst i (by omega)⟩)
      rintro j y σ' Ho H5 hj ⟨y4, y5, rfl, s5, hst⟩ ⟨T', x', x2, rfl, hT, rfl, e1, e2⟩
      obtain ⟨hi1, rfl⟩ := viAt e1
      obtain ⟨hi2, rfl⟩ := viAt e2
      rw [List.getElem_drop]
      have hi3 : 1 + j < C.length := by rw [List.length_drop] at hi2; omega
      have hu1 := hmC _ (List.getElem_mem hi1)
      have hu2 := hmC _ (List.getElem_mem hi3)
      have ga : C.getD j 0 = C[j] := getD_at hi1
      have gb : C.getD (j + 1) 0 = C[1 + j] := by
        rw [getD_at (show j + 1 < C.length by omega)]
        congr 1
        omega
      generalize C[j] = a at *
      generalize C[1 + j] = b at *
      have st := Same.up (o := .tup [V.int (a : Nat), V.int (b : Nat)]) hT
      have s5' := s5.trans st
      refine ⟨_, _, rfl, SqT.of upd_same, rfl, _, _, rfl, _, _, rfl, rfl, ?_⟩
      have sAll := s2.trans (s3.trans (s4.trans s5'))
      generalize upd Ho T' (.tup [V.int (a : Nat), V.int (b : Nat)]) = G3 at s5' sAll
      have nofal : ¬ Fal w1 ks a b → ∀ {H' : Hp}, Same H H' → Q (.bl false) H' := fun hf _ s => bad s ⟨C, hC, fun z => hf (by rw [← ga, ← gb]; exact z.2.2 j (by omega))⟩
      refine ⟨fun σ' H' => σ' = [some (.ref r), some (.int w1), some (.ref c), some (.ref t), some (.int (a : Nat)), some (.int (b : Nat)), none, none] ∧ Same G3 H' ∧ a ∈ wayL w1 b ∧ a ≠ b, ?_, ?_⟩
      · by_cases hab : a = b
        · exact ⟨_, rfl, _, rfl, rfl, true, congrArg V.bl (decide_eq_true (by rw [hab])), iteT (nofal (fun z => z.2.1 hab) sAll)⟩
        refine ⟨_, rfl, _, rfl, rfl, false, congrArg V.bl (decide_eq_false fun z => hab (by injection z with z; omega)), iteF ⟨_, rfl, _, rfl, _, rfl, w1, b, rfl, hw, by omega, fun H6 q6 s6 n6 e6 => ?_⟩⟩
        by_cases hin : a ∈ wayL w1 b
        · refine ⟨q6, _, rfl, .inl (SqL.of e6), rfl, vi_flat _, false, ?_, iteF ⟨rfl, s6, hin, hab⟩⟩
          rw [if_pos rfl, mem_vi, decide_eq_true hin]
          rfl
        · refine ⟨q6, _, rfl, .inl (SqL.of e6), rfl, vi_flat _, true, ?_, iteT (nofal (fun z => hin z.1) (sAll.trans s6))⟩
          rw [if_pos rfl, mem_vi, decide_eq_false hin]
          rfl
      rintro σ' H6 ⟨rfl, s6, hin, hab⟩
      have row6 : Sq H6 r (ks.map V.int) := hrow.imp ((sAll.trans s6) _ _) ((sAll.trans s6) _ _)
      refine ⟨_, rfl, _, rfl, ixS row6 (key_at hu2) ⟨_, rfl, _, rfl, ixS row6 (key_at hu1) ⟨_, _, rfl, rfl, ?_⟩⟩⟩
      by_cases hlt : keyAt ks b < keyAt ks a
      · refine ⟨true, congrArg V.bl (decide_eq_true hlt), iteF ⟨_, _, rfl, s5'.trans s6, fun i hi => ?_⟩⟩
        by_cases hij : i < j
        · exact hst i hij
        · rw [show i = j by omega, ga, gb]
          exact ⟨hin, hab, hlt⟩
      · exact ⟨false, congrArg V.bl (decide_eq_false hlt), iteT (nofal (fun z => hlt z.2.2) (sAll.trans s6))⟩
    rintro σ' H2 ⟨x3, x4, x5, rfl, s2, hok⟩
    refine ⟨fun σ' H' => ∃ E0 : Addr, σ' = [some (.ref r), some (.int w1), some (.ref c), x3, x4, x5, some (.ref E0), none] ∧ Same H2 H' ∧ H' E0 = some (.lst []), ?_, ?_⟩
    · exact ⟨by show 0 ≤ sizeLine; decide, fun D nD => ⟨D, rfl, Same.up nD, upd_same⟩⟩
    rintro σ' H3 ⟨D0, rfl, s3, e3⟩
    have s23 := s2.trans s3
    refine ⟨fun σ' H' => ∃ (x3 : Option V) (D : Addr), σ' = [some (.ref r), some (.int w1), some (.ref c), x3, x4, x5, some (.ref D), none] ∧ Same H3 H' ∧ H' D = some (.lst (vi CH.flatten)), ?_, ?_⟩
    · refine ⟨_, rfl, c, rfl, ⟨_, SqL.of (s23 _ _ ec)⟩, ?_⟩
      refine for_it (walk_list (xs := xs)) (fun m σ' H' => ∃ (x3 : Option V) (D : Addr), σ' = [some (.ref r), some (.int w1), some (.ref c), x3, x4, x5, some (.ref D), none] ∧ Same H3 H' ∧ H' D = some (.lst (vi (CH.take m).flatten))) ⟨_, D0, rfl, Same.refl _, e3⟩ (fun m σ' H' _ ⟨_, _, _, s, _⟩ => SqL.of ((s23.trans s) _ _ ec)) ?_ (fun σ' H' h => by rw [hxl, List.take_length] at h; exact h)
      rintro m y σ' Ho H4 hm ⟨y3, D, rfl, s4, e4⟩ ⟨rfl, hy⟩
      obtain ⟨hm2, t, rfl, et⟩ := (hrx.same (s23.trans s4)).get hy
      rw [List.length_map] at hm2
      rw [List.getElem_map, zI_vi] at et
      have hC := List.getElem_mem hm2
      have hl1 : (CH.take m).flatten.length ≤ 40 * CH.length := by
        have h : CH.flatten.length = (CH.take m).flatten.length + (CH.drop m).flatten.length := by rw [← List.length_append, ← List.flatten_append, List.take_append_drop]
        omega
      rw [List.take_succ_eq_append_getElem hm2, List.flatten_append]
      generalize CH[m] = C at *
      have hl2 := cl C hC
      rw [show [C].flatten = C by simp]
      generalize (CH.take m).flatten = F at *
      refine ⟨_, rfl, _, rfl, t, vi C, rfl, .inr (SqT.of et), fun u nu => ?_⟩
      have s5 := Same.up (o := .lst (vi C)) nu
      refine ⟨D, u, vi F, vi C, rfl, rfl, s5 _ _ e4, upd_same, by rw [vi_len, vi_len, sizeLine_eq]; omega, fun v nv2 => ?_⟩
      refine ⟨_, v, rfl, s4.trans (s5.trans (Same.up nv2)), ?_⟩
      rw [upd_same]
      unfold vi
      rw [List.map_append]
    rintro σ' H4 ⟨y3, D, rfl, s4, e4⟩
    have s24 := s23.trans s4
    refine ⟨_, rfl, D, zI CH.flatten, rfl, SqL.of (by rw [zI_vi]; exact e4), fun ns' q5 hp5 hs5 nq5 => ?_⟩
    have s5 := Same.up (o := .lst (ns'.map V.int)) nq5
    have s25 := s24.trans s5
    refine ⟨_, rfl, r, ks.map V.int, rfl, (hrow.imp (s25 _ _) (s25 _ _) : Sq _ r (ks.map V.int)).imp SqL.of SqT.of, _, rfl, RgOk.of_le (by omega) (by rw [List.length_map]; omega) (by omega) (by omega), fun q6 nq6 => ?_⟩
    have s6 := Same.up (o := .lst (rgV 0 ((ks.map V.int).length : Int))) nq6
    have epl : rgV 0 ((ks.map V.int).length : Int) = (zI (List.range ks.length)).map V.int := by
      rw [List.length_map, rg_pl, zI_vi]
      rfl
    have hpr : ((zI (List.range ks.length))).Pairwise (· ≤ ·) := by
      unfold zI
      rw [List.pairwise_map]
      exact List.pairwise_lt_range.imp fun h => by omega
    refine ⟨.list (ns'.map PyData.int), .list ((zI (List.range ks.length)).map PyData.int), .lst (SqL.of (s6 _ _ upd_same)) (ints_dp _ _ _), .lst (SqL.of (upd_same.trans (by rw [epl]))) (ints_dp _ _ _), shaped_ints _, shaped_ints _, ?_⟩
    rw [sorted_eqv hp5 hs5 (List.Perm.refl _) hpr]
    refine q _ _ (s25.trans s6) ?_
    rw [decide_eq_true_eq]
    exact ⟨fun z => ⟨zI_perm z, hok⟩, fun z => z.pm.map _⟩
theorem b_lacG (T : Tx K mg A) : L2.Binds K A.d__law_are_chains ["row", "wide", "chains"] [] := T.F__law_are_chains.binds fun _ _ _ _ _ _ us hl => match us, hl with | [_, _, _], _ => rfl

end
end Tw

set_option Elab.async false
set_option linter.all false
set_option maxRecDepth 100000
set_option maxHeartbeats 2000000
namespace Tw
open PySem PySem.Spec PyProof.Rows L2
section
variable {P : Program} {w : World} {K : PySem.W.Frag} {mg : Str → Option Value} {base : Heap} {A : Ad}
open LamX (ExtN Tabs TabS)
def RowIn (H : Hp) (a : Addr) (ns : List Int) : Prop := Sq H a (ns.map V.int) ∧ ns.length ≤ 12 ∧ (∀ n ∈ ns, -1000000000 ≤ n ∧ n ≤ 1000000000)
theorem b_lis (T : Tx K mg A) : L2.Binds K A.d__law_is_heap ["row", "wide"] [] := T.F__law_is_heap.binds fun _ _ _ _ _ _ us hl => match us, hl with | [_, _], _ => rfl
def lheapB (ns : List Int) (w p : Nat) : Bool := (wayL w p).any fun q => decide (ns.getD p 0 < ns.getD q 0)
def lheap (ns : List Int) (w : Nat) : Bool := (List.range ns.length).all fun p => !lheapB ns w p
theorem self_sub : ∀ w, w < 5 → ∀ i, i < 13 → 1 ≤ w → i ∈ wayL w i := by decide +kernel
theorem way_rec (w p : Nat) (hw : 1 ≤ w ∧ w ≤ 4) (hp : p ≤ 12) (h0 : 0 < p) : wayL w p = wayL w ((p - 1) / w) ++ [p] := by
  unfold wayL
  have e := up_eq w (by omega) p (by omega) hw.1
  rw [if_neg (by omega)] at e
  rw [e, List.reverse_cons]
theorem par_way (w p : Nat) (hw : 1 ≤ w ∧ w ≤ 4) (hp : p ≤ 12) (h0 : 0 < p) : (p - 1) / w ∈ wayL w p := by
  rw [way_rec w p hw hp h0]
  have h := self_sub w (by omega) ((p - 1) / w) (by have := Nat.div_le_self (p - 1) w; omega) hw.1
  exact List.mem_append_left _ h
/-- keys that rise never fall -/
theorem rise_stay {w n : Nat} {R : List Int} (hw : 1 ≤ w ∧ w ≤ 4) (hn : n ≤ 12) (hr : ∀ i, 0 < i → i < n → keyAt R ((i - 1) / w) ≤ keyAt R i) : ∀ k y, y ≤ k → y < n → ∀ x ∈ wayL w y, keyAt R x ≤ keyAt R y
  | k, y, hk, hy, x, hx => by
    by_cases h0 : y = 0
    · have := up_le w (by omega) y (by omega) hw.1 x hx
      rw [show x = y by omega]
      exact Int.le_refl _
    · rw [way_rec w y hw (by omega) (by omega)] at hx
      rcases List.mem_append.mp hx with hx | hx
      · have hd : (y - 1) / w ≤ y - 1 := Nat.div_le_self _ _
        match k, hk with
        | 0, hk => omega
        | k + 1, hk =>
          have h1 := rise_stay hw hn hr k ((y - 1) / w) (by omega) (by omega) x hx
          have h2 := hr y (by omega) hy
          omega
      · rw [List.mem_singleton.mp hx]
        exact Int.le_refl _
theorem lheap_iff {w : Nat} {ks : List Int} (hw : 1 ≤ w ∧ w ≤ 4) (hn : ks.length ≤ 12) : lheap ks w = true ↔ Rise w ks ks.length := by
  have key : lheap ks w = true ↔ ∀ p, p < ks.length → ∀ q ∈ wayL w p, keyAt ks q ≤ keyAt ks p := by
    unfold lheap
    rw [List.all_eq_true]
    refine ⟨fun h p hp q hq => ?_, fun h p hp => ?_⟩
    · have h1 := h p (List.mem_range.mpr hp)
      by_cases hk : keyAt ks q ≤ keyAt ks p
      · exact hk
      · have h2 : lheapB ks w p = true := List.any_eq_true.mpr ⟨q, hq, decide_eq_true (show keyAt ks p < keyAt ks q by omega)⟩
        rw [h2] at h1
        cases h1
    · rw [Bool.not_eq_true', Bool.eq_false_iff]
      intro h2
      obtain ⟨q, hq, h3⟩ := List.any_eq_true.mp h2
      have h3 : keyAt ks p < keyAt ks q := of_decide_eq_true h3
      have := h p (List.mem_range.mp hp) q hq
      omega
  rw [key]
  exact ⟨fun h i h0 hi => h i hi _ (par_way w i hw (by omega) (by omega)), fun h p hp q hq => rise_stay hw hn (fun i a b => h i a b) p p (Nat.le_refl _) hp q hq⟩
theorem ne_int {i j : Int} (h : i = j) : (!decide (V.int i = V.int j)) = false := by rw [h, decide_eq_true rfl]; rfl
/-- in an ascending list, those that are greater than an item stand behind it -/
theorem above : ∀ {l : List Nat} (_ : l.Pairwise (· < ·)) {i : Nat} (h : i < l.length), (l.filter fun y => decide (l[i] < y)).length = l.length - 1 - i
  | a :: l, hp, 0, _ => by
    have h := List.pairwise_cons.mp hp
    show ((a :: l).filter fun y => decide (a < y)).length = _
    rw [List.filter_cons_of_neg (by simp), List.filter_eq_self.mpr fun y hy => by simpa using h.1 y hy]
    simp
  | a :: l, hp, i + 1, hi => by
    have h := List.pairwise_cons.mp hp
    have hi2 : i < l.length := Nat.lt_of_succ_lt_succ hi
    show ((a :: l).filter fun y => decide (l[i] < y)).length = _
    have := h.1 _ (List.getElem_mem hi2)
    rw [List.filter_cons_of_neg (by simp; omega), above h.2 hi2, List.length_cons]
    omega
theorem RowIn.same {H H' : Hp} {a : Addr} {ns : List Int} (h : RowIn H a ns) (s : Same H H') : RowIn H' a ns := ⟨h.1.same s, h.2⟩
theorem ix_sq {H : Hp} {a : Addr} {ns : List Int} {i : Nat} {Q : VK} (h : Sq H a (ns.map V.int)) (hi : i < ns.length) (q : Q (.int (ns.getD i 0)) H) : rIx K (.ref a) (.int i) H Q := by
  have e : (ns.map V.int)[i]? = some (V.int (ns.getD i 0)) := by
    rw [List.getElem?_map, List.getElem?_eq_getElem hi, List.getD_eq_getElem?_getD, List.getElem?_eq_getElem hi]
    rfl
  rcases h with h | h
  · exact .inl ⟨a, _, _, _, rfl, rfl, SqL.of h, atI_nat e, q⟩
  · exact .inr (.inl ⟨a, _, _, _, rfl, rfl, SqT.of h, atI_nat e, q⟩)
theorem way_le : ∀ w, w < 5 → ∀ p, p < 13 → 1 ≤ w → ∀ q ∈ wayL w p, q ≤ p := by decide +kernel
def spLIs : Sp := fun vs H Q _ => ∃ (a w : Nat) (ns : List Int), vs = [.ref a, .int w] ∧ (1 ≤ w ∧ w ≤ 4) ∧ RowIn H a ns ∧ ∀ H', Same H H' → Q (.bl (lheap ns w)) H'
theorem ok_lis (T : Tx K mg A) : FnOk P w K mg base CX0 4 A.f__law_is_heap A.d__law_is_heap ["row", "wide"] spLIs := by
  refine T.F__law_is_heap.ok sc__law_is_heap (fun vs H Q E h => ?_) (fun cdv B outer s H vs Q E hr h => ?_)
  · obtain ⟨a, w, ns, rfl, _⟩ := h
    rfl
  · obtain ⟨a, w, ns, rfl, hw, hrow, q⟩ := h
    have nd := sc__law_is_heap.nd
    have hlen := hrow.2.1
    refine ⟨_, pss_cons (ps_for PassesOwn.never rfl (pi_range1 rfl T.g_range (pa_cons (pe_callB call_len_seq (by rfl) T.g_len PySem.boot_len (pa_cons (pv 0) pa_nil)) pa_nil)) (pg_name (i := 2) nd rfl (Or.inr rfl))
      (pss_one (ps_if (pt_val (pe_callB (cr_any rfl) (by rfl) T.g_any (by decide +kernel) (pa_cons
        (pe_lc (own := [("above", 3)]) (g := gName 3) (tt := tYes) rfl nd (pi_list (pe_call (ok_lway T) hr (by rfl) T.m__law_way T.F__law_way.kp (b_lway T) .nil pass0 (pa_cons (pv 1) (pa_cons (pv 2) pa_nil))))
          (blkOk_by (own := [("above", 3)]) (N := ["row", "wide", "place", "above"]) (sc := defScope s__law_is_heap) (by decide +kernel)) (fun _ _ _ _ _ => pg_name (i := 3) nd rfl (Or.inl rfl)) (fun _ _ _ _ _ => pts_nil)
          (fun _ _ _ _ _ => pe_cmpR op_lt (pe_ix (r := rIx K) ix_seq (pv 0) (pv 2) (fun _ _ => rfl)) (pe_ix (r := rIx K) ix_seq (pv 0) (pv 3) (fun _ _ => rfl)) (nomark _))) pa_nil))) (pss_one (ps_ret pe_bl)) pss_nil)))
      (pss_one (ps_ret pe_bl)), ?_⟩
    refine ⟨_, rfl, a, _, rfl, hrow.1.len, _, rfl, by omega, by rw [List.length_map]; omega, ?_⟩
    rw [Int.toNat_natCast, List.length_map]
    refine for_range (n := ns.length) (fun k σ H' => ∃ z u, σ = [some (.ref a), some (.int w), z, u] ∧ Same H H' ∧ ∀ p, p < k → lheapB ns w p = false) ⟨none, none, rfl, Same.refl _, fun p hp => (nomatch hp)⟩ ?_ ?_
    · rintro k σ H' hk ⟨z, u, rfl, s1, hno⟩
      have z0 : V.int ((0 : Int) + (k : Nat)) = V.int (k : Nat) := by rw [Int.zero_add]
      rw [z0]
      refine ⟨_, rfl, _, rfl, w, k, rfl, hw, by omega, fun H2 b s2 b0 hb => ?_⟩
      have hwl := way_len w (by omega) k (by omega) hw.1
      refine ⟨b, rfl, ⟨_, SqL.of hb⟩, fun D hD => ?_⟩
      refine lc_it (walk_list (xs := vi (wayL w k))) (PickI H2 D (wayL w k) fun q => some (V.bl (decide (ns.getD k 0 < ns.getD q 0)))) (pick_start hD) (fun k H' _ h => SqL.of (h.s _ _ hb)) ?_ ?_
      · rintro j x H5 H6 hj pk ⟨rfl, ex⟩
        obtain ⟨hj', rfl⟩ := map_at ex
        have hq : (wayL w k)[j] < ns.length := by
          have h := way_le w (by omega) k (by omega) hw.1 _ (List.getElem_mem hj')
          omega
        have hr6 := (hrow.1.same s1).same (s2.trans pk.s)
        refine ⟨rfl, ?_⟩
        refine iteT (B := PickI H2 D (wayL w k) (fun q => some (V.bl (decide (ns.getD k 0 < ns.getD q 0)))) (j + 1) H6) ?_
        exact ⟨_, rfl, _, rfl, ix_sq hr6 hk ⟨_, rfl, _, rfl, ix_sq hr6 hq ⟨_, _, rfl, rfl, pick_yes hj' (by omega) rfl (Same.refl _) pk⟩⟩⟩
      · intro H5 pk
        have ac := pick_end (vi_len _) pk
        have e : ((wayL w k).filterMap fun q => some (V.bl (decide (ns.getD k 0 < ns.getD q 0)))) = ((wayL w k).map fun q => decide (ns.getD k 0 < ns.getD q 0)).map V.bl := by
          rw [List.filterMap_eq_map', List.map_map]
          rfl
        rw [e] at ac
        refine ⟨D, _, rfl, SqL.of ac.a, _, rfl, ?_⟩
        have ea : ((wayL w k).map fun q => decide (ns.getD k 0 < ns.getD q 0)).any id = lheapB ns w k := by
          rw [List.any_map]
          rfl
        rw [ea]
        have s5 := s1.trans (s2.trans ac.s)
        cases hb2 : lheapB ns w k with
        | true =>
          refine iteT ?_
          have el : lheap ns w = false := by
            unfold lheap
            refine List.all_eq_false.mpr ⟨k, List.mem_range.mpr hk, ?_⟩
            rw [hb2]
            exact Bool.false_ne_true
          rw [el] at q
          exact q _ s5
        | false =>
          refine iteF ⟨_, _, rfl, s5, fun p hp => ?_⟩
          by_cases e2 : p = k
          · rw [e2, hb2]
          · exact hno p (by omega)
    · rintro σ H' ⟨z, u, rfl, s1, hno⟩
      have el : lheap ns w = true := by
        unfold lheap
        refine List.all_eq_true.mpr fun p hp => ?_
        rw [hno p (List.mem_range.mp hp)]
        rfl
      rw [el] at q
      exact q _ s1
end
end Tw

set_option Elab.async false
set_option linter.all false
set_option maxRecDepth 100000
set_option maxHeartbeats 2000000
namespace Tw
open PySem PySem.Spec PyProof.Rows L2
section
variable {P : Program} {w : World} {K : PySem.W.Frag} {mg : Str → Option Value} {base : Heap} {A : Ad}
open LamX (ExtN Tabs TabS)
/-! is mended, by the law: ok_lis b_lis spLIs lheap_iff lheap RowIn SqT Acc Acc.start Acc.push Acc.same vi_app AtM ne_int ints_dp ints_eqvL walk_range rowD rowD_dp rowD_eqv zI_inj flat_len -/
structure ThAt (H : Hp) (t : Addr) (late : List Int) (X : List Nat) (CH : List (List Nat)) : Prop where
  ob : ∃ (a0 a1 a2 : Addr) (xs : List V), H t = some (.tup [.ref a0, .ref a1, .ref a2]) ∧ H a0 = some (.tup (late.map V.int)) ∧ H a1 = some (.tup (vi X)) ∧ H a2 = some (.lst xs) ∧ RowsAt H xs (CH.map zI)
theorem ThAt.same {H H' : Hp} {t : Addr} {late : List Int} {X : List Nat} {CH : List (List Nat)} (h : ThAt H t late X CH) (s : Same H H') : ThAt H' t late X CH := by
  obtain ⟨a0, a1, a2, xs, e, e0, e1, e2, r⟩ := h.ob
  exact ⟨a0, a1, a2, xs, s _ _ e, s _ _ e0, s _ _ e1, s _ _ e2, r.same s⟩
def spMnd : Sp := fun vs H Q _ => ∃ (r w t : Nat) (ks late : List Int) (X : List Nat) (CH : List (List Nat)), vs = [.ref r, .int w, .ref t] ∧ (1 ≤ w ∧ w ≤ 4) ∧ H r = some (.lst (ks.map V.int)) ∧ ks.length ≤ 12 ∧ ThAt H t late X CH ∧ late.length = ks.length ∧ (∀ z ∈ late, -1000000000 ≤ z ∧ z ≤ 1000000000) ∧ CH.length ≤ 20 ∧ (∀ C ∈ CH, C.length ≤ 40) ∧
  ∀ (H' : Hp) (b : Bool), Same H H' → (b = true ↔ ShowP w ks.length ks late X CH) → Q (.bl b) H'
theorem ok_mnd (T : Tx K mg A) : FnOk P w K mg base CX0 8 A.f__law_is_mended A.d__law_is_mended ["row", "wide", "three"] spMnd := by
  refine T.F__law_is_mended.ok sc__law_is_mended (fun vs H Q E h => ?_) (fun cdv B outer s H vs Q E hr h => ?_)
  · obtain ⟨r, w, t, ks, late, X, CH, rfl, _⟩ := h
    rfl
  · obtain ⟨r, w1, t, ks, late, X, CH, rfl, hw, er, hn, th, hll, hlb, hC20, hC40, q⟩ := h
    have nd := sc__law_is_mended.nd
    have hu := hr.units
    obtain ⟨a0, a1, a2, xs, e, e0, e1, e2, rows⟩ := th.ob
    have hxl : xs.length = CH.length := by rw [Paired.length rows, List.length_map]
    refine ⟨_, PSs.nox (C8.pss_cut (ps_asg (pv 2) (pg_tup rfl (pgs_cons (pg_name (i := 3) nd rfl (Or.inr rfl)) (pgs_cons (pg_name (i := 4) nd rfl (Or.inl rfl)) (pgs_cons (pg_name (i := 5) nd rfl (Or.inl rfl)) pgs_nil)))))
      (C8.pss_cut (ps_if (PW.pt (pw_or (pt_cmpR op_ne (pe_callB (r := rLn K) call_len_seq (by rfl) T.g_len PySem.boot_len (pa_cons (pv 3) pa_nil)) (pe_callB (r := rLn K) call_len_seq (by rfl) T.g_len PySem.boot_len (pa_cons (pv 0) pa_nil)) (nomark _)) (pw_or1 (pt_not (pt_val (pe_call (ok_lis T) (hr.mono (by decide)) (by rfl) T.m__law_is_heap T.F__law_is_heap.kp (b_lis T) .nil pass0 (pa_cons (pv 3) (pa_cons (pv 1) pa_nil)))))))) (pss_one (ps_ret pe_bl)) pss_nil)
      (C8.pss_cut (ps_setLc (i := 6) (own := [("place", 7)]) (g := gName 7) rfl nd rfl rfl (sw_true rfl rfl rfl (by decide +kernel)) (pi_range1 rfl T.g_range (pa_cons (pe_callB (r := rLn K) call_len_seq (by rfl) T.g_len PySem.boot_len (pa_cons (pv 0) pa_nil)) pa_nil)) (blkOk_by (own := [("place", 7)]) (N := ["row", "wide", "three", "late", "kept", "chains", "same", "place"]) (sc := defScope s__law_is_mended) (by decide +kernel)) (fun _ _ _ _ _ => pg_name (i := 7) nd rfl (Or.inl rfl)) (fun _ _ _ _ _ => pts_one (pt_cmpR op_eq (pe_ix (r := rIxT K) ix_tup (pv 3) (pv 7) (fun _ _ => rfl)) (pe_ix (r := rIxL K) ix_list (pv 0) (pv 7) (fun _ _ => rfl)) (nomark _))) (fun _ _ _ _ _ => (pv 7)))
      (C8.pss_cut (ps_if (PW.pt (pw_or (pt_cmpR (op_neD hu) (pe_callTy (r := rListK K) call_listK (by rfl) T.g_list (by decide +kernel) (pa_cons (pv 4) pa_nil)) (pv 6) (nomark _)) (pw_or1 (pt_cmpR op_ne (pe_callB (r := rLn K) call_len_seq (by rfl) T.g_len PySem.boot_len (pa_cons (pv 4) pa_nil)) (pe_callB (r := rLn K) call_len_seq (by rfl) T.g_len PySem.boot_len (pa_cons (pv 5) pa_nil)) (nomark _))))) (pss_one (ps_ret pe_bl)) pss_nil)
      (pss_one (ps_ret (pe_call (ok_lacG T) (hr.mono (by decide)) (by rfl) T.m__law_are_chains T.F__law_are_chains.kp (b_lacG T) .nil pass0 (pa_cons (pv 0) (pa_cons (pv 1) (pa_cons (pv 5) pa_nil)))))))))), ?_⟩
    refine ⟨fun σ' H' => σ' = [some (.ref r), some (.int w1), some (.ref t), some (.ref a0), some (.ref a1), some (.ref a2), none, none] ∧ H' = H, ?_, ?_⟩
    · exact ⟨_, rfl, _, _, rfl, SqT.of e, rfl, _, _, rfl, _, _, rfl, _, _, rfl, rfl, rfl, rfl⟩
    rintro σ' H1 ⟨rfl, rfl⟩
    refine ⟨fun σ' H' => σ' = [some (.ref r), some (.int w1), some (.ref t), some (.ref a0), some (.ref a1), some (.ref a2), none, none] ∧ Same H1 H' ∧ Rise w1 late ks.length, ?_, ?_⟩
    · refine ⟨_, rfl, a0, _, rfl, .inr (SqT.of e0), _, rfl, r, _, rfl, .inl (SqL.of er), rfl, false, congrArg V.bl (ne_int (by rw [List.length_map, List.length_map, hll])), iteF ⟨_, rfl, _, rfl, a0, w1, late, rfl, hw, ⟨.inr e0, by omega, hlb⟩, fun H2 s2 => ⟨_, rfl, ?_⟩⟩⟩
      have hh := lheap_iff (w := w1) (ks := late) hw (by omega)
      rw [hll] at hh
      cases hb : lheap late w1 with
      | true => exact iteF ⟨rfl, s2, hh.mp hb⟩
      | false => exact iteT (q H2 false s2 ⟨fun z => (by cases z), fun z => absurd (hh.mpr z.rise) (by rw [hb]; exact Bool.false_ne_true)⟩)
    rintro σ' H2 ⟨rfl, s2, hrs⟩
    refine ⟨fun σ' H' => ∃ (q6 : Addr), σ' = [some (.ref r), some (.int w1), some (.ref t), some (.ref a0), some (.ref a1), some (.ref a2), some (.ref q6), none] ∧ Same H1 H' ∧ H' q6 = some (.lst (vi ((List.range ks.length).filter fun i => decide (keyAt late i = keyAt ks i)))), ?_, ?_⟩
    · have er2 := s2 _ _ er
      have e02 := s2 _ _ e0
      refine ⟨_, rfl, r, ks.map V.int, rfl, .inl (SqL.of er2), _, rfl, by rw [List.length_map]; omega, by rw [List.length_map]; omega, fun D nD => ?_⟩
      refine lc_it (walk_range (lo := 0) (n := _)) (fun j H' => Acc H2 D (vi ((List.range j).filter fun i => decide (keyAt late i = keyAt ks i))) H') (Acc.start nD) (fun _ _ _ _ => trivial) ?_ ?_
      · rintro j y H10 H11 hj ac ⟨rfl, hy⟩
        obtain rfl : y = V.int (j : Nat) := by
          rw [hy]
          show V.int (0 + (j : Int)) = _
          rw [Int.zero_add]
        rw [List.length_map, Int.toNat_natCast] at hj
        rw [List.range_succ, List.filter_append]
        have hfl := List.length_filter_le (fun i => decide (keyAt late i = keyAt ks i)) (List.range j)
        rw [List.length_range] at hfl
        refine ⟨rfl, _, rfl, _, rfl, a0, _, _, _, rfl, rfl, SqT.of (ac.s _ _ e02), key_at (show j < late.length by omega), _, rfl, _, rfl, r, _, _, _, rfl, rfl, SqL.of (ac.s _ _ er2), key_at hj, rfl, _, rfl, ?_⟩
        by_cases he : keyAt late j = keyAt ks j
        · rw [List.filter_cons_of_pos (p := fun i => decide (keyAt late i = keyAt ks i)) (decide_eq_true he), List.filter_nil, vi_app]
          exact ite_b (c := true) (decide_eq_true (by rw [he])) (iteT ⟨_, rfl, _, ac.a, by rw [vi_len, sizeLine_eq]; omega, ac.push⟩)
        · rw [List.filter_cons_of_neg (p := fun i => decide (keyAt late i = keyAt ks i)) (by rw [decide_eq_true_eq]; exact he), List.filter_nil, List.append_nil]
          exact ite_b (c := false) (decide_eq_false fun z => he (by injection z)) (iteF ac)
      · rintro H10 ac
        rw [List.length_map, Int.toNat_natCast] at ac
        exact ⟨D, rfl, s2.trans ac.s, ac.a⟩
    rintro σ' H3 ⟨q6, rfl, s3, e6⟩
    refine ⟨fun σ' H' => ∃ x6 : Option V, σ' = [some (.ref r), some (.int w1), some (.ref t), some (.ref a0), some (.ref a1), some (.ref a2), x6, none] ∧ Same H1 H' ∧ X = (List.range ks.length).filter (fun i => decide (keyAt late i = keyAt ks i)) ∧ CH.length = X.length, ?_, ?_⟩
    · refine ⟨_, rfl, a1, vi X, rfl, .inr (SqT.of (s3 _ _ e1)), fun u nu => ?_⟩
      have su := Same.up (o := .lst (vi X)) nu
      have s4 := s3.trans su
      refine ⟨_, rfl, .list ((zI X).map PyData.int), .list ((zI ((List.range ks.length).filter fun i => decide (keyAt late i = keyAt ks i))).map PyData.int), .lst (SqL.of (upd_same.trans (by rw [zI_vi]))) (ints_dp _ _ _), .lst (SqL.of (by rw [zI_vi]; exact su _ _ e6)) (ints_dp _ _ _), shaped_ints _, shaped_ints _, ?_⟩
      rw [ints_eqvL]
      by_cases hX : X = (List.range ks.length).filter (fun i => decide (keyAt late i = keyAt ks i))
      · rw [decide_eq_true (congrArg zI hX)]
        refine ⟨_, rfl, iteF ⟨_, rfl, a1, _, rfl, .inr (SqT.of (s4 _ _ e1)), _, rfl, a2, _, rfl, .inl (SqL.of (s4 _ _ e2)), rfl, _, rfl, ?_⟩⟩
        by_cases hl : CH.length = X.length
        · exact ite_b (c := false) (ne_int (by rw [vi_len, hxl, hl])) (iteF ⟨_, rfl, s4, hX, hl⟩)
        · refine ite_b (c := true) ?_ (iteT (q _ false s4 ⟨fun z => (by cases z), fun z => absurd z.len hl⟩))
          rw [decide_eq_false fun z => hl (by rw [vi_len, hxl] at z; injection z with z; omega)]
          rfl
      · rw [decide_eq_false fun z => hX (zI_inj z)]
        exact ⟨_, rfl, iteT (iteT (q _ false s4 ⟨fun z => (by cases z), fun z => absurd z.kept hX⟩))⟩
    rintro σ' H4 ⟨x6, rfl, s4, hX, hl⟩
    refine ⟨_, rfl, _, rfl, _, rfl, r, w1, a2, ks.length, ks, CH, xs, rfl, hw, .inl (s4 _ _ er), rfl, hn, s4 _ _ e2, rows.same s4, hC20, hC40, fun H5 b s5 hb => q H5 b (s4.trans s5) (hb.trans ⟨fun z => ⟨hrs, hl, hX, z⟩, fun z => z.chs⟩)⟩
theorem b_mnd (T : Tx K mg A) : L2.Binds K A.d__law_is_mended ["row", "wide", "three"] [] := T.F__law_is_mended.binds fun _ _ _ _ _ _ us hl => match us, hl with | [_, _, _], _ => rfl

end
end Tw

set_option Elab.async false
set_option linter.all false
set_option maxRecDepth 100000
set_option maxHeartbeats 2000000
namespace Tw
open PySem PySem.Spec PyProof.Rows L2
section
variable {P : Program} {w : World} {K : PySem.W.Frag} {mg : Str → Option Value} {base : Heap} {A : Ad}
open LamX (ExtN Tabs TabS)
theorem at_last {xs : List V} (h : 0 < xs.length) : atI xs (-1) = some xs[xs.length - 1] := by
  unfold atI ixN
  rw [if_neg (by omega), if_pos (by omega), show ((-1 : Int) + (xs.length : Nat)).toNat = xs.length - 1 by omega]
  exact List.getElem?_eq_getElem (by omega)
theorem catTup {K : PySem.W.Frag} {H : Hp} {a b : Addr} {xs ys : List V} {Q : VK} (ha : H a = some (.tup xs)) (hb : H b = some (.tup ys)) (hl : xs.length + ys.length ≤ 1000) (q : ∀ (H' : Hp) (p : Addr), Same H H' → H' p = some (.tup (xs ++ ys)) → Q (.ref p) H') : rCatA K (.ref a) (.ref b) H Q := by
  refine ⟨a, b, _, _, rfl, rfl, SqT.of ha, SqT.of hb, by rw [sizeLine_eq]; omega, fun e => q H b (Same.refl _) ?_, fun _ e => q H a (Same.refl _) ?_, fun _ _ p np => q _ p (Same.up np) upd_same⟩
  · rw [e, List.nil_append]
    exact hb
  · rw [e, List.append_nil]
    exact ha
def natB (p : List Nat) : List Int := p.map fun x => Int.ofNat x
abbrev nv (p : List Nat) : List V := (natB p).map V.int
theorem q4 : ¬ (("stops" : Str) = "looks") := by decide +kernel
end
end Tw

set_option Elab.async false
set_option linter.all false
set_option maxRecDepth 100000
set_option maxHeartbeats 2000000
namespace Tw
open PySem PySem.Spec PyProof.Rows L2
section
variable {P : Program} {w : World} {K : PySem.W.Frag} {mg : Str → Option Value} {base : Heap} {A : Ad}
open LamX (ExtN Tabs TabS)
/-! loose chains: at_last AccR AccR.start AccR.push AccR.same RowsAt RowsAt.get RowsAt.same RowsAt.push sizeLine_eq zI zI_vi zI_inj vi_len walk_list walk_range catTup rowD rowD_dp rowsD_dp rowD_eqv rowsL_eqv rowsD_shaped rg_pl ok_lpar b_lpar spLPar -/
structure LooP (n p : Nat) (CH : List (List Nat)) : Prop where
  ne : ∀ C ∈ CH, C ≠ []
  hl : ∀ C ∈ CH, C.headD 0 ≤ C.getLastD 0
  hd : ∀ q, q < p → ∃ C ∈ CH, C.headD 0 = q
  tot : CH.flatten.length ≤ n
  cnt : CH.length ≤ n
theorem LooP.less {n p : Nat} {CH : List (List Nat)} (h : LooP n (p + 1) CH) : LooP n p CH := ⟨h.ne, h.hl, fun q hq => h.hd q (by omega), h.tot, h.cnt⟩
theorem loo_start (n : Nat) : LooP n n ((List.range n).map fun p => [p]) := by
  refine ⟨fun C hC => ?_, fun C hC => ?_, fun q hq => ⟨[q], List.mem_map.mpr ⟨q, List.mem_range.mpr hq, rfl⟩, rfl⟩, ?_, by rw [List.length_map, List.length_range]; exact Nat.le_refl _⟩
  · obtain ⟨p, _, rfl⟩ := List.mem_map.mp hC
    exact List.cons_ne_nil _ _
  · obtain ⟨p, _, rfl⟩ := List.mem_map.mp hC
    exact Nat.le_refl _
  · have h := flat_len (CH := (List.range n).map fun p => [p]) (k := 1) fun C hC => by
      obtain ⟨p, _, rfl⟩ := List.mem_map.mp hC
      exact Nat.le_refl 1
    rw [List.length_map, List.length_range] at h
    omega
theorem flat_sub (f : List Nat → Bool) : ∀ L : List (List Nat), (L.filter f).flatten.length ≤ L.flatten.length
  | [] => Nat.le_refl _
  | C :: L => by
    have ih := flat_sub f L
    rw [List.flatten_cons, List.length_append]
    by_cases h : f C = true
    · rw [List.filter_cons_of_pos h, List.flatten_cons, List.length_append]
      omega
    · rw [List.filter_cons_of_neg h]
      omega
theorem flat_perm {L M : List (List Nat)} (h : L.Perm M) : L.flatten.length = M.flatten.length := by
  induction h with
  | nil => rfl
  | cons C _ ih => rw [List.flatten_cons, List.flatten_cons, List.length_append, List.length_append, ih]
  | swap C D _ => rw [List.flatten_cons, List.flatten_cons, List.flatten_cons, List.flatten_cons, List.length_append, List.length_append, List.length_append, List.length_append]; omega
  | trans _ _ a b => exact a.trans b
def othB (E R C : List Nat) : Bool := !(decide (C = E) || decide (C = R))
theorem two_out {L : List (List Nat)} {E R : List Nat} (hE : E ∈ L) (hR : R ∈ L) (ne : E ≠ R) : (L.filter (othB E R)).flatten.length + (E.length + R.length) ≤ L.flatten.length ∧ (L.filter (othB E R)).length + 2 ≤ L.length := by
  have hp1 := List.perm_cons_erase hE
  have hR2 : R ∈ L.erase E := (List.mem_erase_of_ne ne.symm).mpr hR
  have hp2 := List.perm_cons_erase hR2
  have hp : L.Perm (E :: R :: (L.erase E).erase R) := hp1.trans (List.Perm.cons E hp2)
  generalize (L.erase E).erase R = M at hp
  have hf := hp.filter (othB E R)
  have e1 : othB E R E = false := by unfold othB; rw [decide_eq_true rfl]; rfl
  have e2 : othB E R R = false := by unfold othB; rw [decide_eq_true (rfl : R = R), Bool.or_true]; rfl
  rw [List.filter_cons_of_neg (by rw [e1]; exact Bool.false_ne_true), List.filter_cons_of_neg (by rw [e2]; exact Bool.false_ne_true)] at hf
  have h1 := flat_perm hf
  have h2 := flat_perm hp
  rw [List.flatten_cons, List.flatten_cons, List.length_append, List.length_append] at h2
  have h3 := flat_sub (othB E R) M
  have h4 := hf.length_eq
  have h5 := hp.length_eq
  rw [List.length_cons, List.length_cons] at h5
  have h6 := List.length_filter_le (othB E R) M
  omega
theorem headD_app {E R : List Nat} (h : E ≠ []) : (E ++ R).headD 0 = E.headD 0 := by
  cases E with
  | nil => exact absurd rfl h
  | cons a l => rfl
theorem lastD_app {E R : List Nat} (h : R ≠ []) : (E ++ R).getLastD 0 = R.getLastD 0 := by
  obtain ⟨L, a, rfl⟩ : ∃ L a, R = L ++ [a] := ⟨R.dropLast, R.getLast h, (List.dropLast_concat_getLast h).symm⟩
  rw [← List.append_assoc, List.getLastD_concat, List.getLastD_concat]
theorem LooP.step {n p pr : Nat} {CH : List (List Nat)} (h : LooP n (p + 1) CH) {E R : List Nat} (hE : E ∈ CH) (eE : E.getLastD 0 = pr) (hp : pr < p) (hR : R ∈ CH) (eR : R.headD 0 = p) : LooP n p (CH.filter (othB E R) ++ [E ++ R]) := by
  have ne : E ≠ R := fun z => by
    have := h.hl E hE
    rw [eE, z, eR] at this
    omega
  obtain ⟨t1, t2⟩ := two_out hE hR ne
  have hm : ∀ C ∈ CH.filter (othB E R) ++ [E ++ R], C ∈ CH ∨ C = E ++ R := fun C hC => by
    rcases List.mem_append.mp hC with hC | hC
    · exact .inl (List.mem_filter.mp hC).1
    · exact .inr (List.mem_singleton.mp hC)
  refine ⟨fun C hC => ?_, fun C hC => ?_, fun q hq => ?_, ?_, ?_⟩
  · rcases hm C hC with hC | rfl
    · exact h.ne C hC
    · exact fun z => h.ne E hE (List.append_eq_nil_iff.mp z).1
  · rcases hm C hC with hC | rfl
    · exact h.hl C hC
    · rw [headD_app (h.ne E hE), lastD_app (h.ne R hR)]
      have h1 := h.hl E hE
      have h2 := h.hl R hR
      omega
  · obtain ⟨C, hC, eC⟩ := h.hd q (by omega)
    by_cases c1 : C = E
    · exact ⟨E ++ R, List.mem_append_right _ (List.mem_singleton.mpr rfl), by rw [headD_app (h.ne E hE), ← c1, eC]⟩
    · by_cases c2 : C = R
      · rw [c2, eR] at eC
        omega
      · refine ⟨C, List.mem_append_left _ (List.mem_filter.mpr ⟨hC, ?_⟩), eC⟩
        unfold othB
        rw [decide_eq_false c1, decide_eq_false c2]
        rfl
  · have := h.tot
    rw [List.flatten_append, List.length_append]
    show _ + ([E ++ R] : List (List Nat)).flatten.length ≤ n
    rw [List.flatten_cons, List.flatten_nil, List.append_nil, List.length_append]
    omega
  · have := h.cnt
    rw [List.length_append]
    show _ + 1 ≤ n
    omega
theorem vi_last {C : List Nat} (h : C ≠ []) : atI (vi C) (-1) = some (V.int ((C.getLastD 0 : Nat) : Int)) := by
  obtain ⟨L, a, rfl⟩ : ∃ L a, C = L ++ [a] := ⟨C.dropLast, C.getLast h, (List.dropLast_concat_getLast h).symm⟩
  rw [vi_app, List.getLastD_concat]
  exact atI_last _ _
theorem vi_head {C : List Nat} (h : C ≠ []) : atI (vi C) 0 = some (V.int ((C.headD 0 : Nat) : Int)) := by
  cases C with
  | nil => exact absurd rfl h
  | cons a l => exact atI_nat (j := 0) rfl
theorem down_at {n j : Nat} {y : V} (h : (rgV 1 (n : Int)).reverse[j]? = some y) : j + 1 < n ∧ y = V.int ((n - 1 - j : Nat) : Int) := by
  have hl : (rgV 1 (n : Int)).length = n - 1 := by
    unfold rgV
    rw [List.length_map, List.length_range]
    omega
  obtain ⟨hj, e⟩ := List.getElem?_eq_some_iff.mp h
  rw [List.length_reverse, hl] at hj
  refine ⟨by omega, ?_⟩
  rw [← e, List.getElem_reverse]
  unfold rgV
  rw [List.getElem_map, List.getElem_range]
  refine congrArg V.int ?_
  rw [List.length_map, List.length_range]
  omega
theorem rows_head {H : Hp} {xs : List V} {ls : List (List Int)} (h : RowsAt H xs ls) (hn : ls ≠ []) : ∃ (t : Addr) (b : List Int), atI xs 0 = some (.ref t) ∧ ls.head? = some b ∧ H t = some (.tup (b.map V.int)) := by
  cases h with
  | nil => exact absurd rfl hn
  | cons a b =>
    obtain ⟨t, rfl, z⟩ := a
    exact ⟨t, _, atI_nat (j := 0) rfl, rfl, z⟩
def spLoo : Sp := fun vs H Q _ => ∃ (r w m : Nat) (ks : List Int), vs = [.ref r, .int w, .int m] ∧ (1 ≤ w ∧ w ≤ 4) ∧ H r = some (.lst (ks.map V.int)) ∧ ks.length ≤ 9 ∧
  ∀ (H' : Hp) (q : Addr) (xs : List V) (CH : List (List Nat)), Same H H' → H q = none → H' q = some (.lst xs) → RowsAt H' xs (CH.map zI) → CH.length ≤ 9 → (∀ C ∈ CH, C.length ≤ 9) → Q (.ref q) H'
/-- a comprehension that keeps some chains -/
theorem keep_it {CH : List (List Nat)} {q : List Nat → Bool} {j : Nat} (h : j < CH.length) : ((CH.take (j + 1)).filter q).map zI = ((CH.take j).filter q).map zI ++ (if q CH[j] = true then [zI CH[j]] else []) := by
  rw [List.take_succ_eq_append_getElem h, List.filter_append, List.map_append]
  by_cases hq : q CH[j] = true
  · rw [List.filter_cons_of_pos hq, if_pos hq, List.filter_nil]
    rfl
  · rw [List.filter_cons_of_neg hq, if_neg hq, List.filter_nil]
    rfl
theorem ok_loo (T : Tx K mg A) : FnOk P w K mg base CX0 4 A.f__law_loose A.d__law_loose ["row", "wide", "many"] spLoo := by
  refine T.F__law_loose.ok sc__law_loose (fun vs H Q E h => ?_) (fun cdv B outer s H vs Q E hr h => ?_)
  · obtain ⟨r, w, m, ks, rfl, _⟩ := h
    rfl
  · obtain ⟨r, w1, m, ks, rfl, hw, er, hn, q⟩ := h
    have nd := sc__law_loose.nd
    have hu := hr.units
    have hu2 : (B.deeper (envOfC "_law_loose" (defScope s__law_loose) s.heap.objs.size A.f__law_loose cdv)).units + 65 < cLine := by
      have := hr.un
      omega
    obtain ⟨n, hnn⟩ : ∃ n, n = ks.length := ⟨_, rfl⟩
    have hn9 : n ≤ 9 := by omega
    refine ⟨_, PSs.nox (C8.pss_cut (ps_setLc (i := 4) (own := [("place", 3)]) (g := gName 3) (tt := tYes) rfl nd rfl rfl (sw_true rfl rfl rfl (by decide +kernel)) (pi_range1 rfl T.g_range (pa_cons (pe_callB (r := rLn K) call_len_seq (by rfl) T.g_len PySem.boot_len (pa_cons (pv 0) pa_nil)) pa_nil)) (blkOk_by (own := [("place", 3)]) (N := ["row", "wide", "many", "place", "chains", "ends", "rest", "chain"]) (sc := defScope s__law_loose) (by decide +kernel)) (fun _ _ _ _ _ => pg_name (i := 3) nd rfl (Or.inl rfl)) (fun _ _ _ _ _ => pts_nil) (fun _ _ _ _ _ => (pe_tup (pa_cons (pv 3) pa_nil))))
      (C8.pss_cut (ps_for PassesOwn.never rfl (pi_list (pe_revL (pe_listRg rfl (by rfl) T.g_list (prg_2 (by rfl) T.g_range pe_int (pe_callB (r := rLn K) call_len_seq (by rfl) T.g_len PySem.boot_len (pa_cons (pv 0) pa_nil)))))) (pg_name (i := 3) nd rfl (Or.inr rfl)) (C8.pss_cut (ps_set (i := 5) nd rfl (Or.inr rfl) (pe_lc (own := [("chain", 7)]) (g := gName 7) rfl nd (pi_list (pv 4)) (blkOk_by (own := [("chain", 7)]) (N := ["row", "wide", "many", "place", "chains", "ends", "rest", "chain"]) (sc := defScope s__law_loose) (by decide +kernel)) (fun _ _ _ _ _ => pg_name (i := 7) nd rfl (Or.inl rfl)) (fun _ _ _ _ _ => pts_one (pt_cmpR op_eq (pe_ix (r := rIxT K) ix_tup (pv 7) (pe_un un_neg pe_int) (fun _ _ => rfl)) (pe_call (ok_lpar T) (hr.mono (by decide)) (by rfl) T.m__law_parent T.F__law_parent.kp (b_lpar T) .nil pass0 (pa_cons (pv 1) (pa_cons (pv 3) pa_nil))) (nomark _))) (fun _ _ _ _ _ => (pv 7))))
      (pss_one (ps_if (PW.pt (pw_and (pt_cmpR op_gt (pe_callB (r := rLn K) call_len_seq (by rfl) T.g_len PySem.boot_len (pa_cons (pv 4) pa_nil)) (pv 2) (nomark _)) (pw_and1 (pt_cmpR (op_neD hu) (pv 5) (pe_lst pa_nil) (nomark _))))) (C8.pss_cut (ps_set (i := 6) nd rfl (Or.inr rfl) (pe_lc (own := [("chain", 7)]) (g := gName 7) rfl nd (pi_list (pv 4)) (blkOk_by (own := [("chain", 7)]) (N := ["row", "wide", "many", "place", "chains", "ends", "rest", "chain"]) (sc := defScope s__law_loose) (by decide +kernel)) (fun _ _ _ _ _ => pg_name (i := 7) nd rfl (Or.inl rfl)) (fun _ _ _ _ _ => pts_one (pt_cmpR op_eq (pe_ix (r := rIxT K) ix_tup (pv 7) pe_int (fun _ _ => rfl)) (pv 3) (nomark _))) (fun _ _ _ _ _ => (pv 7))))
      (pss_one (ps_set (i := 4) nd rfl (Or.inl rfl) (pe_op op_cat (pe_lc (own := [("chain", 7)]) (g := gName 7) rfl nd (pi_list (pv 4)) (blkOk_by (own := [("chain", 7)]) (N := ["row", "wide", "many", "place", "chains", "ends", "rest", "chain"]) (sc := defScope s__law_loose) (by decide +kernel)) (fun _ _ _ _ _ => pg_name (i := 7) nd rfl (Or.inl rfl)) (fun _ _ _ _ _ => pts_one (pt_cmpR (r := Td.rNotInDT K) (Td.op_notInDT hu2) (pv 7) (pe_tup (pa_cons (pe_ix (r := rIxL K) ix_list (pv 5) pe_int (fun _ _ => rfl)) (pa_cons (pe_ix (r := rIxL K) ix_list (pv 6) pe_int (fun _ _ => rfl)) pa_nil))) (by rfl))) (fun _ _ _ _ _ => (pv 7))) (pe_lst (pa_cons (pe_op (r := rCatA K) op_catA (pe_ix (r := rIxL K) ix_list (pv 5) pe_int (fun _ _ => rfl)) (pe_ix (r := rIxL K) ix_list (pv 6) pe_int (fun _ _ => rfl))) pa_nil)))))) pss_nil))))
      (pss_one (ps_ret (pv 4))))), ?_⟩
    refine ⟨fun σ' H' => ∃ (q4 : Addr) (xs : List V), σ' = [some (.ref r), some (.int w1), some (.int m), none, some (.ref q4), none, none, none] ∧ Same H H' ∧ H q4 = none ∧ H' q4 = some (.lst xs) ∧ RowsAt H' xs (((List.range n).map fun p => [p]).map zI), ?_, ?_⟩
    · refine ⟨_, rfl, r, ks.map V.int, rfl, .inl (SqL.of er), _, rfl, by rw [List.length_map]; omega, by rw [List.length_map]; omega, fun D nD => ?_⟩
      refine lc_it (walk_range (lo := 0) (n := _)) (fun j H' => AccR H D (((List.range j).map fun p => [p]).map zI) H') (AccR.start nD) (fun _ _ _ _ => trivial) ?_ ?_
      · rintro j y H10 H11 hj ac ⟨rfl, hy⟩
        obtain rfl : y = V.int (j : Nat) := by
          rw [hy]
          show V.int (0 + (j : Int)) = _
          rw [Int.zero_add]
        rw [List.length_map, Int.toNat_natCast] at hj
        rw [List.range_succ, List.map_append, List.map_append]
        refine ⟨rfl, iteT (B := AccR H D (((List.range j).map fun p => [p]).map zI ++ [[j]].map zI) H11) ⟨_, rfl, by show 1 ≤ sizeLine; decide, fun u nu => ?_⟩⟩
        exact (ac.same (Same.up nu)).push (x := .ref u) (l := zI [j]) ⟨u, rfl, upd_same⟩ (by rw [List.length_map, List.length_map, List.length_range, sizeLine_eq]; omega)
      · rintro H10 ac
        rw [List.length_map, Int.toNat_natCast, ← hnn] at ac
        obtain ⟨xs, a1, a2⟩ := ac.a
        exact ⟨D, xs, rfl, ac.s, ac.n, a1, a2⟩
    rintro σ' H1 ⟨q4, xs, rfl, s1, n4, e4, r4⟩
    refine ⟨fun σ' H' => ∃ (q4 : Addr) (xs : List V) (CH : List (List Nat)) (x3 x5 x6 : Option V), σ' = [some (.ref r), some (.int w1), some (.int m), x3, some (.ref q4), x5, x6, none] ∧ Same H H' ∧ H q4 = none ∧ H' q4 = some (.lst xs) ∧ RowsAt H' xs (CH.map zI) ∧ CH.length ≤ 9 ∧ ∀ C ∈ CH, C.length ≤ 9, ?_, ?_⟩
    · refine ⟨_, rfl, r, ks.map V.int, rfl, .inl (SqL.of (s1 _ _ er)), _, _, rfl, rfl, RgOk.of_le (by omega) (by rw [List.length_map]; omega) (by omega) (by omega), fun u nu => ?_⟩
      rw [List.length_map, ← hnn]
      have su := Same.up (o := .lst (rgV 1 (n : Int))) nu
      refine ⟨u, rgV 1 (n : Int), rfl, SqL.of upd_same, fun v nv => ?_⟩
      have sv := su.trans (Same.up (o := .lst (rgV 1 (n : Int)).reverse) nv)
      have ev : upd (upd H1 u (.lst (rgV 1 (n : Int)))) v (.lst (rgV 1 (n : Int)).reverse) v = some (.lst (rgV 1 (n : Int)).reverse) := upd_same
      generalize upd (upd H1 u (.lst (rgV 1 (n : Int)))) v (.lst (rgV 1 (n : Int)).reverse) = H2 at sv ev
      refine ⟨v, rfl, ⟨_, SqL.of ev⟩, ?_⟩
      refine for_it (walk_list (xs := (rgV 1 (n : Int)).reverse)) (fun j σ' H' => ∃ (q4 : Addr) (xs : List V) (CH : List (List Nat)) (x3 x5 x6 : Option V), σ' = [some (.ref r), some (.int w1), some (.int m), x3, some (.ref q4), x5, x6, none] ∧ Same H2 H' ∧ H q4 = none ∧ H' q4 = some (.lst xs) ∧ RowsAt H' xs (CH.map zI) ∧ LooP n (n - j) CH)
        ⟨q4, xs, _, _, _, _, rfl, Same.refl _, n4, sv _ _ e4, r4.same sv, loo_start n⟩ (fun j σ' H' _ ⟨_, _, _, _, _, _, _, s, _⟩ => SqL.of (s _ _ ev)) ?_ ?_
      · rintro j y σ' Ho H3 hj ⟨q4, xs, CH, x3, x5, x6, rfl, s3, n4, e4, r4, lo⟩ ⟨rfl, hy⟩
        obtain ⟨hj2, rfl⟩ := down_at hy
        obtain ⟨p, hp⟩ : ∃ p, p = n - 1 - j := ⟨_, rfl⟩
        rw [← hp]
        have hp1 : n - j = p + 1 := by omega
        rw [hp1] at lo
        have hxl : xs.length = CH.length := by rw [Paired.length r4, List.length_map]
        have hcn := lo.cnt
        have hpar : (p - 1) / w1 < p := by
          have : (p - 1) / w1 ≤ p - 1 := Nat.div_le_self _ _
          omega
        refine ⟨fun σ' H' => ∃ (q5 : Addr) (ys : List V), σ' = [some (.ref r), some (.int w1), some (.int m), some (.int (p : Nat)), some (.ref q4), some (.ref q5), x6, none] ∧ Same H3 H' ∧ H' q5 = some (.lst ys) ∧ RowsAt H' ys ((CH.filter fun C => decide (C.getLastD 0 = (p - 1) / w1)).map zI), ?_, ?_⟩
        · refine ⟨_, rfl, q4, rfl, ⟨_, SqL.of e4⟩, fun D nD => ?_⟩
          refine lc_it (walk_list (xs := xs)) (fun i H' => AccR H3 D (((CH.take i).filter fun C => decide (C.getLastD 0 = (p - 1) / w1)).map zI) H') (AccR.start nD) (fun i H' _ ac => SqL.of (ac.s _ _ e4)) ?_ ?_
          · rintro i y Ho H5 hi ac ⟨rfl, hy⟩
            obtain ⟨hi2, t, rfl, et⟩ := (r4.same ac.s).get hy
            rw [List.length_map] at hi2
            rw [List.getElem_map, zI_vi] at et
            rw [keep_it hi2]
            have hfl := List.length_filter_le (fun C => decide (C.getLastD 0 = (p - 1) / w1)) (CH.take i)
            rw [List.length_take] at hfl
            have hne := lo.ne _ (List.getElem_mem hi2)
            generalize CH[i] = C at *
            refine ⟨rfl, _, rfl, _, rfl, t, _, _, _, rfl, rfl, SqT.of et, vi_last hne, _, rfl, _, rfl, w1, p, rfl, hw, by omega, rfl, _, rfl, ?_⟩
            by_cases hC : C.getLastD 0 = (p - 1) / w1
            · rw [if_pos (decide_eq_true hC)]
              obtain ⟨acc, a1, a2, a3⟩ := ac.push (x := .ref t) (l := zI C) ⟨t, rfl, by rw [zI_vi]; exact et⟩ (by rw [List.length_map, sizeLine_eq]; omega)
              exact ite_b (c := true) (decide_eq_true (by rw [hC])) (iteT ⟨_, rfl, acc, a1, a2, a3⟩)
            · rw [if_neg (by rw [decide_eq_true_eq]; exact hC), List.append_nil]
              exact ite_b (c := false) (decide_eq_false fun z => hC (by injection z with z; omega)) (iteF ac)
          · rintro H5 ac
            rw [hxl, List.take_length] at ac
            obtain ⟨ys, a1, a2⟩ := ac.a
            exact ⟨D, ys, rfl, ac.s, a1, a2⟩
        rintro σ' H4 ⟨q5, ys, rfl, s4, e5, r5⟩
        have less : ∀ {G : Hp} {x3 x5 x6 : Option V}, Same H3 G → ∃ (q4' : Addr) (xs : List V) (CH : List (List Nat)) (y3 y5 y6 : Option V), [some (.ref r), some (.int w1), some (.int m), x3, some (.ref q4), x5, x6, none] = [some (.ref r), some (.int w1), some (.int m), y3, some (.ref q4'), y5, y6, none] ∧ Same H2 G ∧ H q4' = none ∧ G q4' = some (.lst xs) ∧ RowsAt G xs (CH.map zI) ∧ LooP n (n - (j + 1)) CH :=
          fun s => ⟨q4, xs, CH, _, _, _, rfl, s3.trans s, n4, s _ _ e4, r4.same s, by rw [show n - (j + 1) = p by omega]; exact lo.less⟩
        have e44 := s4 _ _ e4
        have r44 := r4.same s4
        refine ⟨_, rfl, q4, xs, rfl, .inl (SqL.of e44), _, rfl, _, _, rfl, rfl, _, rfl, ?_⟩
        by_cases hm : (m : Int) < (xs.length : Int)
        case neg => exact ite_b (c := false) (decide_eq_false hm) (iteF (iteF (less s4)))
        refine ite_b (c := true) (decide_eq_true hm) (iteT ?_)
        refine ⟨_, rfl, by show 0 ≤ sizeLine; decide, fun e ne => ?_⟩
        have s5 := s4.trans (Same.up (o := .lst []) ne)
        have s45 := Same.up (o := .lst []) ne
        refine ⟨.list (((CH.filter fun C => decide (C.getLastD 0 = (p - 1) / w1)).map zI).map rowD), .list (([] : List (List Int)).map rowD), .lst (SqL.of (s45 _ _ e5)) (rowsD_dp (r5.same s45)), .lst (SqL.of upd_same) .nil, rowsD_shaped _, rowsD_shaped [], _, rfl, ?_⟩
        rw [rowsL_eqv]
        by_cases he : (CH.filter fun C => decide (C.getLastD 0 = (p - 1) / w1)).map zI = []
        case pos =>
          rw [decide_eq_true he]
          exact iteF (less s5)
        rw [decide_eq_false he]
        refine iteT ?_
        have e5' := s45 _ _ e5
        have r5' := r5.same s45
        have e45 := s5 _ _ e4
        have r45 := r4.same s5
        generalize upd H4 e (.lst []) = H5 at *
        refine ⟨fun σ' H' => ∃ (q6 : Addr) (zs : List V), σ' = [some (.ref r), some (.int w1), some (.int m), some (.int (p : Nat)), some (.ref q4), some (.ref q5), some (.ref q6), none] ∧ Same H5 H' ∧ H' q6 = some (.lst zs) ∧ RowsAt H' zs ((CH.filter fun C => decide (C.headD 0 = p)).map zI), ?_, ?_⟩
        · refine ⟨_, rfl, q4, rfl, ⟨_, SqL.of e45⟩, fun D nD => ?_⟩
          refine lc_it (walk_list (xs := xs)) (fun i H' => AccR H5 D (((CH.take i).filter fun C => decide (C.headD 0 = p)).map zI) H') (AccR.start nD) (fun i H' _ ac => SqL.of (ac.s _ _ e45)) ?_ ?_
          · rintro i y Ho H6 hi ac ⟨rfl, hy⟩
            obtain ⟨hi2, t, rfl, et⟩ := (r45.same ac.s).get hy
            rw [List.length_map] at hi2
            rw [List.getElem_map, zI_vi] at et
            rw [keep_it hi2]
            have hfl := List.length_filter_le (fun C => decide (C.headD 0 = p)) (CH.take i)
            rw [List.length_take] at hfl
            have hne := lo.ne _ (List.getElem_mem hi2)
            generalize CH[i] = C at *
            refine ⟨rfl, _, rfl, t, _, _, _, rfl, rfl, SqT.of et, vi_head hne, _, rfl, rfl, _, rfl, ?_⟩
            by_cases hC : C.headD 0 = p
            · rw [if_pos (decide_eq_true hC)]
              obtain ⟨acc, a1, a2, a3⟩ := ac.push (x := .ref t) (l := zI C) ⟨t, rfl, by rw [zI_vi]; exact et⟩ (by rw [List.length_map, sizeLine_eq]; omega)
              exact ite_b (c := true) (decide_eq_true (by rw [hC])) (iteT ⟨_, rfl, acc, a1, a2, a3⟩)
            · rw [if_neg (by rw [decide_eq_true_eq]; exact hC), List.append_nil]
              exact ite_b (c := false) (decide_eq_false fun z => hC (by injection z with z; omega)) (iteF ac)
          · rintro H6 ac
            rw [hxl, List.take_length] at ac
            obtain ⟨ys, a1, a2⟩ := ac.a
            exact ⟨D, ys, rfl, ac.s, a1, a2⟩
        rintro σ' H6 ⟨q6, zs, rfl, s6, e6, r6⟩
        have e56 := s6 _ _ e5'
        have r56 := r5'.same s6
        have e46 := s6 _ _ e45
        have r46 := r45.same s6
        obtain ⟨R0, hR0, eR0⟩ := lo.hd p (by omega)
        have hr6 : (CH.filter fun C => decide (C.headD 0 = p)).map zI ≠ [] := fun z => by
          have : zI R0 ∈ (CH.filter fun C => decide (C.headD 0 = p)).map zI := List.mem_map.mpr ⟨R0, List.mem_filter.mpr ⟨hR0, decide_eq_true eR0⟩, rfl⟩
          rw [z] at this
          cases this
        obtain ⟨tE, bE, aE, mE, hE⟩ := rows_head r56 he
        obtain ⟨tR, bR, aR, mR, hR⟩ := rows_head r6 hr6
        obtain ⟨E1, hE1, rfl⟩ := List.mem_map.mp (List.mem_of_mem_head? mE)
        obtain ⟨R1, hR1, rfl⟩ := List.mem_map.mp (List.mem_of_mem_head? mR)
        obtain ⟨hE1, eE1⟩ := List.mem_filter.mp hE1
        obtain ⟨hR1, eR1⟩ := List.mem_filter.mp hR1
        have lo2 := lo.step hE1 (of_decide_eq_true eE1) hpar hR1 (of_decide_eq_true eR1)
        rw [zI_vi] at hE hR
        have lE : E1.length ≤ n := Nat.le_trans (List.sublist_flatten_of_mem hE1).length_le lo.tot
        have lR : R1.length ≤ n := Nat.le_trans (List.sublist_flatten_of_mem hR1).length_le lo.tot
        refine ⟨_, rfl, q4, rfl, ⟨_, SqL.of e46⟩, fun D nD => ?_⟩
        refine lc_it (walk_list (xs := xs)) (fun i H' => AccR H6 D (((CH.take i).filter (othB E1 R1)).map zI) H') (AccR.start nD) (fun i H' _ ac => SqL.of (ac.s _ _ e46)) ?_ ?_
        · rintro i y Ho H7 hi ac ⟨rfl, hy⟩
          obtain ⟨hi2, t, rfl, et⟩ := (r46.same ac.s).get hy
          rw [List.length_map] at hi2
          rw [List.getElem_map, zI_vi] at et
          rw [keep_it hi2]
          have hfl := List.length_filter_le (othB E1 R1) (CH.take i)
          rw [List.length_take] at hfl
          generalize CH[i] = C at *
          refine ⟨rfl, _, rfl, _, rfl, q5, _, _, _, rfl, rfl, SqL.of (ac.s _ _ e56), aE, _, rfl, q6, _, _, _, rfl, rfl, SqL.of (ac.s _ _ e6), aR, by show 2 ≤ sizeLine; decide, fun u nu => ?_⟩
          have s8 := Same.up (o := .tup [V.ref tE, V.ref tR]) nu
          have ac8 := ac.same s8
          refine ⟨rowD (zI C), [rowD (zI E1), rowD (zI R1)], rowD_dp (r := zI C) ⟨t, rfl, by rw [zI_vi]; exact s8 _ _ et⟩, .tup (SqT.of upd_same) (.cons (rowD_dp (r := zI E1) ⟨tE, rfl, by rw [zI_vi]; exact ac8.s _ _ hE⟩) (.cons (rowD_dp (r := zI R1) ⟨tR, rfl, by rw [zI_vi]; exact ac8.s _ _ hR⟩) .nil)), shaped_ints _, rowsD_shaped [zI E1, zI R1], _, rfl, ?_⟩
          have hany : ([rowD (zI E1), rowD (zI R1)].any fun z => z.eqv (rowD (zI C))) = (decide (C = E1) || decide (C = R1)) := by
            show (PyData.eqv (rowD (zI E1)) (rowD (zI C)) || (PyData.eqv (rowD (zI R1)) (rowD (zI C)) || false)) = _
            rw [rowD_eqv, rowD_eqv, Bool.or_false, decide_eq_decide.mpr (⟨fun z => (zI_inj z).symm, fun z => congrArg zI z.symm⟩ : zI E1 = zI C ↔ C = E1), decide_eq_decide.mpr (⟨fun z => (zI_inj z).symm, fun z => congrArg zI z.symm⟩ : zI R1 = zI C ↔ C = R1)]
          rw [hany]
          by_cases hC : othB E1 R1 C = true
          · rw [if_pos hC]
            obtain ⟨acc, a1, a2, a3⟩ := ac8.push (x := .ref t) (l := zI C) ⟨t, rfl, by rw [zI_vi]; exact s8 _ _ et⟩ (by rw [List.length_map, sizeLine_eq]; omega)
            exact ite_b (c := true) hC (iteT ⟨_, rfl, acc, a1, a2, a3⟩)
          · rw [if_neg hC, List.append_nil]
            exact ite_b (c := false) (Bool.eq_false_iff.mpr hC) (iteF ac8)
        · rintro H7 ac
          rw [hxl, List.take_length] at ac
          obtain ⟨ys, a1, a2⟩ := ac.a
          have hyl : ys.length ≤ CH.length := by
            rw [Paired.length a2, List.length_map]
            exact List.length_filter_le _ _
          refine ⟨_, rfl, q5, _, _, _, rfl, rfl, SqL.of (ac.s _ _ e56), aE, _, rfl, q6, _, _, _, rfl, rfl, SqL.of (ac.s _ _ e6), aR, ?_⟩
          refine catTup (ac.s _ _ hE) (ac.s _ _ hR) (by rw [vi_len, vi_len]; omega) fun H8 c s8 ec => ?_
          refine ⟨by show 1 ≤ sizeLine; decide, fun u nu => ?_⟩
          have s9 := s8.trans (Same.up (o := .lst [V.ref c]) nu)
          have ec9 := (Same.up (o := .lst [V.ref c]) nu) _ _ ec
          refine ⟨D, u, _, _, rfl, rfl, s9 _ _ a1, upd_same, by rw [sizeLine_eq]; show _ + 1 ≤ _; omega, fun v nv => ?_⟩
          have s10 := s9.trans (Same.up (o := .lst (ys ++ [V.ref c])) nv)
          have sA := s3.trans (s5.trans (s6.trans (ac.s.trans s10)))
          refine ⟨v, _, _, _, _, _, rfl, sA, ?_, upd_same, ?_, by rw [show n - (j + 1) = p by omega]; exact lo2⟩
          · cases hv : H v with
            | none => rfl
            | some o =>
              have := (s1.trans (sv.trans (s3.trans (s5.trans (s6.trans (ac.s.trans s9)))))) _ _ hv
              rw [nv] at this
              cases this
          · rw [List.map_append]
            refine RowsAt.push ⟨c, rfl, ?_⟩ (a2.same s10)
            refine (Same.up (o := .lst (ys ++ [V.ref c])) nv) _ _ ?_
            rw [zI_vi]
            have : vi (E1 ++ R1) = vi E1 ++ vi R1 := by unfold vi; rw [List.map_append]
            rw [this]
            exact ec9
      · rintro σ' H3 ⟨q4, xs, CH, x3, x5, x6, rfl, s3, n4, e4, r4, lo⟩
        have h1 := lo.cnt
        refine ⟨q4, xs, CH, x3, x5, x6, rfl, s1.trans (sv.trans s3), n4, e4, r4, by omega, fun C hC => ?_⟩
        have h2 := (List.sublist_flatten_of_mem hC).length_le
        have h3 := lo.tot
        omega
    rintro σ' H2 ⟨q4, xs, CH, x3, x5, x6, rfl, s2, n4, e4, r4, hl1, hl2⟩
    exact ⟨_, rfl, q H2 q4 xs CH s2 n4 e4 r4 hl1 hl2⟩
theorem b_loo (T : Tx K mg A) : L2.Binds K A.d__law_loose ["row", "wide", "many"] [] := T.F__law_loose.binds fun _ _ _ _ _ _ us hl => match us, hl with | [_, _, _], _ => rfl

end
end Tw

set_option Elab.async false
set_option linter.all false
set_option maxRecDepth 100000
set_option maxHeartbeats 2000000
namespace Tw
open PySem PySem.Spec PyProof.Rows L2
section
variable {P : Program} {w : World} {K : PySem.W.Frag} {mg : Str → Option Value} {base : Heap} {A : Ad}
open LamX (ExtN Tabs TabS)
/-- what stood, but for what stands at d -/
def But (d : Addr) (H H' : Hp) : Prop := ∀ b o, b ≠ d → H b = some o → H' b = some o
theorem But.of {d : Addr} {H H' : Hp} (s : Same H H') : But d H H' := fun b o _ e => s b o e
theorem But.trans {d : Addr} {H H1 H2 : Hp} (a : But d H H1) (b : But d H1 H2) : But d H H2 := fun c o n e => b c o n (a c o n e)
/-- the draws: a list of the script and of a number -/
structure DrAt (K : PySem.W.Frag) (H : Hp) (d a : Addr) (ns : List Int) (k : Nat) : Prop where
  l : H d = some (.lst [.ref a, .int k])
  n : a ≠ d ∨ ∀ H', SqL K H' a (ns.map V.int)
  s : SqL K H a (ns.map V.int)
  h : ns.length ≤ 63
theorem DrAt.ext {K : PySem.W.Frag} {H H' : Hp} {d a : Addr} {ns : List Int} {k : Nat} (h : DrAt K H d a ns k) (e : ExtN H H') : DrAt K H' d a ns k := ⟨e _ _ h.l (fun ps z => nomatch z), h.n, e.sqL h.s, h.h⟩
theorem DrAt.same {K : PySem.W.Frag} {H H' : Hp} {d a : Addr} {ns : List Int} {k : Nat} (h : DrAt K H d a ns k) (s : Same H H') : DrAt K H' d a ns k := ⟨s _ _ h.l, h.n, s.seq h.s, h.h⟩
theorem b_take (T : Tx K mg A) : L2.Binds K A.d__law_take ["draw", "many"] [] := T.F__law_take.binds fun _ _ _ _ _ _ us hl => match us, hl with | [_, _], _ => rfl
theorem cut_back (xs : List V) : cutV xs none (some (-1)) = xs.take (xs.length - 1) := by
  unfold cutV
  rw [HT.sIx_none, List.drop_zero, Nat.sub_zero]
  congr 1
  unfold HT.sIx
  show (if (-1 : Int) < 0 then _ else _) = _
  rw [if_pos (by decide)]
  omega
abbrev d0 : Pr := (0, ⟨#[]⟩)
theorem keyAt_get {ks : List Int} {i : Nat} (h : i < ks.length) : keyAt ks i = ks[i] := by
  unfold keyAt
  rw [List.getD_eq_getElem?_getD, List.getElem?_eq_getElem h]
  rfl
theorem keyAt_mem {ks : List Int} {p : Nat} (h : p < ks.length) : keyAt ks p ∈ ks := by
  unfold keyAt
  rw [List.getD_eq_getElem?_getD, List.getElem?_eq_getElem h]
  exact List.getElem_mem h
theorem But.put {d : Addr} {o : HO} {H : Hp} : But d H (upd H d o) := fun b u n e => by rw [upd_ne n]; exact e
theorem m1 : ¬ (("row" : Str) = "way") := by decide +kernel
theorem But.seq {d a : Addr} {H H' : Hp} {xs : List V} (s : But d H H') (h : SqL K H a xs) (n : a ≠ d ∨ ∀ H', SqL K H' a xs) : SqL K H' a xs := by
  rcases n with n | n
  rotate_left
  · exact n _
  rcases h with (h | ⟨o, h⟩) | h
  · exact .inl (.inl (s _ _ n h))
  · exact .inl (.inr ⟨o, s _ _ n h⟩)
  · exact .inr h
theorem emp_eqv : ∀ ns : List Int, PyData.eqv (.list (ns.map PyData.int)) (.list []) = decide (ns = [])
  | [] => by rfl
  | n :: ns => by rfl
theorem cut63 (xs : List V) (h : xs.length ≤ 63) : cutV xs none (some 63) = xs := by
  unfold cutV
  rw [HT.sIx_none, show (63 : Int) = ((63 : Nat) : Int) from rfl, HT.sIx_nat, List.drop_zero, Nat.min_eq_right h, Nat.sub_zero, List.take_length]
def spNum (K : PySem.W.Frag) : Sp := fun vs H Q _ => ∃ (a : Addr) (ns : List Int) (i : Nat), vs = [.ref a, .int i] ∧ SqL K H a (ns.map V.int) ∧ ns.length ≤ 63 ∧ i < 1000000 ∧ ∀ H' r, Same H H' → Q (.int r) H'
theorem ok_num (T : Tx K mg A) : FnOk P w K mg base CX0 2 A.f__law_number A.d__law_number ["script", "index"] (spNum K) := by
  refine T.F__law_number.ok sc__law_number (fun vs H Q E h => ?_) (fun cdv B outer s H vs Q E hr h => ?_)
  · obtain ⟨a, ns, i, rfl, _⟩ := h
    rfl
  · obtain ⟨a, ns, i, rfl, ha, hl, hi, q⟩ := h
    have nd := sc__law_number.nd
    have hu := hr.units
    refine ⟨_, C8.pss_cut (ps_set (i := 2) nd rfl (Or.inl rfl) (pe_ifExp (pt_cmpR (op_neD hu) (pv 0) (pe_lst pa_nil) (nomark _)) (pe_slice sl_list (pv 0) po_none (po_some pe_int)) (pe_lst (pa_cons pe_int pa_nil))))
      (pss_cons (ps_set (i := 3) nd rfl (Or.inl rfl) (pe_op op_add
        (pe_ix ix_list (pv 2) (pe_op op_mod (pe_callTy call_int1 (by rfl) T.g_int (by decide +kernel) (pa_cons (pv 1) pa_nil)) (pe_callB call_len_seq (by rfl) T.g_len PySem.boot_len (pa_cons (pv 2) pa_nil))) (fun _ _ => rfl))
        (pe_op op_mul pe_int (pe_op op_fdivN (pv 1) (pe_callB call_len_seq (by rfl) T.g_len PySem.boot_len (pa_cons (pv 2) pa_nil))))))
      (pss_cons (ps_par (i := 4) (j := 5) rfl nd rfl rfl (by decide) rfl rfl (pa_cons (pe_op op_mod (pe_callTy call_int1 (by rfl) T.g_int (by decide +kernel) (pa_cons (pv 3) pa_nil)) pe_int)
          (pa_cons (pe_op op_mod (pe_callTy call_int1 (by rfl) T.g_int (by decide +kernel) (pa_cons (pe_op op_fdivN (pv 3) pe_int) pa_nil)) pe_int) pa_nil)) rfl)
      (pss_cons (ps_set (i := 6) nd rfl (Or.inl rfl) (pe_op op_mod (pe_callTy call_int1 (by rfl) T.g_int (by decide +kernel) (pa_cons (pe_callB (cr_sum rfl) (by rfl) T.g_sum (by decide +kernel) (pa_cons (pv 2) pa_nil)) pa_nil)) pe_int))
      (pss_cons (ps_set (i := 7) nd rfl (Or.inl rfl) (pe_op op_mod (pe_callTy call_int1 (by rfl) T.g_int (by decide +kernel) (pa_cons
          (pe_op op_add (pe_op op_add (pe_op op_mul (pe_op op_add (pv 4) (pe_op op_mul pe_int (pv 1))) pe_int) (pe_op op_mul pe_int (pv 5))) (pv 6)) pa_nil)) pe_int))
      (pss_one (ps_ret (pe_op op_add (pe_op op_mul (pe_op op_mod (pe_callTy call_int1 (by rfl) T.g_int (by decide +kernel) (pa_cons
          (pe_op op_mul (pv 7) (pe_op op_add (pe_op op_add (pv 7) (pe_op op_mul pe_int (pv 1))) pe_int)) pa_nil)) pe_int) pe_int) (pv 5)))))))), ?_⟩
    refine ⟨fun σ H1 => ∃ (c : Addr) (cs : List Int), σ = [some (.ref a), some (.int i), some (.ref c), none, none, none, none, none] ∧ Same H H1 ∧ H1 c = some (.lst (cs.map V.int)) ∧ 0 < cs.length ∧ cs.length ≤ 63, ?_, ?_⟩
    · refine ⟨_, rfl, Nat.zero_le _, fun l0 hl0 => ?_⟩
      have hs0 : Same H (upd H l0 (.lst [])) := Same.up hl0
      refine ⟨.list (ns.map PyData.int), .list [], .lst (hs0.seq ha) (ints_dp _ _ _), .lst (SqL.of upd_same) .nil, ?_, rfl, _, rfl, ?_⟩
      · exact shaped_ints _
      · rw [emp_eqv]
        by_cases e : ns = []
        · rw [decide_eq_true e]
          refine iteF ⟨by show 1 ≤ sizeLine; decide, fun l1 hl1 => ⟨l1, [5], rfl, hs0.trans (Same.up hl1), upd_same, by decide, by decide⟩⟩
        · rw [decide_eq_false e]
          refine iteT ⟨_, rfl, _, rfl, a, _, rfl, hs0.seq ha, fun l1 hl1 => ⟨l1, ns, rfl, hs0.trans (Same.up hl1), ?_, ?_, hl⟩⟩
          · rw [upd_same]
            exact congrArg (fun z => some (HO.lst z)) (cut63 _ (by rw [List.length_map]; exact hl))
          · exact List.length_pos_iff.mpr e
    · rintro σ H1 ⟨c, cs, rfl, s1, hc, h0, h63⟩
      have hq := SqL.of (K := K) hc
      have hL : ((cs.map V.int).length : Int) = (cs.length : Int) := by rw [List.length_map]
      have hm0 : 0 ≤ (i : Int) % (cs.length : Int) := Int.emod_nonneg _ (by omega)
      have hm1 : (i : Int) % (cs.length : Int) < (cs.length : Int) := Int.emod_lt_of_pos _ (by omega)
      obtain ⟨j, hj⟩ : ∃ j : Nat, (i : Int) % (cs.length : Int) = (j : Int) := ⟨_, (Int.toNat_of_nonneg hm0).symm⟩
      have hjl : j < cs.length := by omega
      have hat : atI (cs.map V.int) ((i : Int) % ((cs.map V.int).length : Int)) = some (V.int cs[j]) := by
        rw [hL, hj]
        exact atI_nat (by rw [List.getElem?_map, List.getElem?_eq_getElem hjl]; rfl)
      refine ⟨_, rfl, _, rfl, .inl ⟨_, rfl, _, rfl, c, _, rfl, .inl hq, _, _, rfl, rfl, ?_, c, _, _, _, rfl, rfl, hq, hat, _, rfl, _, rfl, c, _, rfl, .inl hq, _, _, rfl, rfl, ⟨?_, ?_⟩, _, _, rfl, rfl, .inl ⟨by decide, by decide⟩, _, _, rfl, rfl, ?_⟩⟩
      · show (0 : Int) < ((cs.map V.int).length : Int)
        omega
      · omega
      · omega
      · refine ⟨_, rfl, .inl ⟨_, rfl, _, _, rfl, rfl, by show (0 : Int) < 1000003; decide, ?_⟩⟩
        refine ⟨_, rfl, _, _, rfl, rfl, ⟨by decide, by decide⟩, .inl ⟨_, rfl, _, _, rfl, rfl, by show (0 : Int) < 999983; decide, _, _, rfl, ?_⟩⟩
        refine ⟨_, rfl, c, cs, rfl, hq, .inl ⟨_, rfl, _, _, rfl, rfl, by show (0 : Int) < 65521; decide, ?_⟩⟩
        refine ⟨_, rfl, _, rfl, _, _, rfl, rfl, .inl ⟨by decide, by decide⟩, _, _, rfl, rfl, _, _, rfl, rfl, .inr ⟨by decide, by decide⟩, ?_⟩
        refine ⟨_, rfl, _, _, rfl, rfl, .inl ⟨by decide, by decide⟩, _, _, rfl, rfl, _, rfl, _, _, rfl, rfl, .inl ⟨_, rfl, _, _, rfl, rfl, by show (0 : Int) < 2147483647; decide, ?_⟩⟩
        refine ⟨_, rfl, _, rfl, _, rfl, _, _, rfl, rfl, .inl ⟨by decide, by decide⟩, _, _, rfl, rfl, _, _, rfl, rfl, _, _, rfl, rfl, .inl ⟨?_, ?_⟩, .inl ⟨_, rfl, _, _, rfl, rfl, by show (0 : Int) < 2147483629; decide, ?_⟩⟩
        · have := Int.emod_nonneg ((((cs[j] + 13 * Int.fdiv (i : Int) ((cs.map V.int).length : Int)) % 1000003 + 977 * (i : Int)) * 48271 + 31 * (Int.fdiv (cs[j] + 13 * Int.fdiv (i : Int) ((cs.map V.int).length : Int)) 1000003 % 999983)) + cs.sum % 65521) (show (2147483647 : Int) ≠ 0 by decide)
          omega
        · have := Int.emod_lt_of_pos ((((cs[j] + 13 * Int.fdiv (i : Int) ((cs.map V.int).length : Int)) % 1000003 + 977 * (i : Int)) * 48271 + 31 * (Int.fdiv (cs[j] + 13 * Int.fdiv (i : Int) ((cs.map V.int).length : Int)) 1000003 % 999983)) + cs.sum % 65521) (show (0 : Int) < 2147483647 by decide)
          omega
        · exact ⟨_, _, rfl, rfl, .inr ⟨by decide, by decide⟩, _, rfl, _, _, rfl, rfl, q _ _ s1⟩
theorem b_num (T : Tx K mg A) : L2.Binds K A.d__law_number ["script", "index"] [] := T.F__law_number.binds fun _ _ _ _ _ _ us hl => match us, hl with | [_, _], _ => rfl
def spTake (K : PySem.W.Frag) : Sp := fun vs H Q _ => ∃ (d a : Addr) (ns : List Int) (k m : Nat), vs = [.ref d, .int m] ∧ DrAt K H d a ns k ∧ k < 100000 ∧ 0 < m ∧
  ∀ (H' : Hp) (r : Nat), But d H H' → DrAt K H' d a ns (k + 1) → r < m → Q (.int r) H'
theorem ok_take (T : Tx K mg A) : FnOk P w K mg base CX0 3 A.f__law_take A.d__law_take ["draw", "many"] (spTake K) := by
  refine T.F__law_take.ok sc__law_take (fun vs H Q E h => ?_) (fun cdv B outer s H vs Q E hr h => ?_)
  · obtain ⟨d, a, ns, k, m, rfl, _⟩ := h
    rfl
  · obtain ⟨d, a, ns, k, m, rfl, ⟨hl, hn, hs, h63⟩, hk, hm, q⟩ := h
    refine ⟨_, pss_cons (ps_asg (pe_op op_add (pe_ix ix_list (pv 0) pe_int (fun _ _ => rfl)) pe_int) (pg_sub (pv 0) pe_int set_list))
      (pss_one (ps_ret (pe_op op_mod (pe_callTy call_int1 (by rfl) T.g_int (by decide +kernel) (pa_cons
        (pe_call (ok_num T) hr (by rfl) T.m__law_number T.F__law_number.kp (b_num T) .nil pass0 (pa_cons (pe_ix ix_list (pv 0) pe_int (fun _ _ => rfl))
          (pa_cons (pe_callTy call_int1 (by rfl) T.g_int (by decide +kernel) (pa_cons (pe_ix ix_list (pv 0) pe_int (fun _ _ => rfl)) pa_nil)) pa_nil))) pa_nil)) (pv 1)))), ?_⟩
    have at1 : atI [V.ref a, V.int (k : Nat)] 1 = some (V.int (k : Nat)) := rfl
    refine ⟨_, rfl, d, _, _, _, rfl, rfl, SqL.of hl, at1, _, _, rfl, rfl, _, rfl, d, _, _, 1, rfl, rfl, hl, rfl, ?_⟩
    have e1 : upd H d (.lst (([V.ref a, V.int (k : Nat)]).set 1 (V.int ((k : Int) + 1)))) d = some (.lst [V.ref a, V.int ((k + 1 : Nat) : Int)]) := by
      rw [upd_same]
      rfl
    have b1 : But d H (upd H d (.lst (([V.ref a, V.int (k : Nat)]).set 1 (V.int ((k : Int) + 1))))) := But.put
    have s1 := b1.seq hs hn
    refine ⟨_, rfl, d, _, _, _, rfl, rfl, SqL.of e1, rfl, _, rfl, d, _, _, _, rfl, rfl, SqL.of e1, rfl, .inl ⟨_, rfl, a, ns, k + 1, rfl, s1, h63, by omega, fun H2 r s2 => ?_⟩⟩
    refine .inl ⟨_, rfl, _, rfl, _, _, rfl, rfl, by show (0 : Int) < (m : Nat); omega, ?_⟩
    have m0 := Int.emod_nonneg r (show ((m : Nat) : Int) ≠ 0 by omega)
    have m1 := Int.emod_lt_of_pos r (show (0 : Int) < (m : Nat) by omega)
    obtain ⟨z, hz⟩ : ∃ z : Nat, r % (m : Nat) = (z : Int) := ⟨_, (Int.toNat_of_nonneg m0).symm⟩
    have h := q H2 z (b1.trans (But.of s2)) ⟨s2 _ _ e1, hn, s2.seq s1, h63⟩ (by omega)
    rw [← hz] at h
    exact h
theorem q1 : ¬ (("row" : Str) = "stops") := by decide +kernel
theorem q2 : ¬ (("row" : Str) = "changes") := by decide +kernel
theorem set_mem {ks : List Int} {s : Nat} {v : Int} {z : Int} (h : z ∈ ks.set s v) : z ∈ ks ∨ z = v := List.mem_or_eq_of_mem_set h
theorem DrAt.start {K : PySem.W.Frag} {H : Hp} {d a : Addr} {ns : List Int} (ha : SqL K H a (ns.map V.int)) (hl : ns.length ≤ 63) (hd : H d = none) : DrAt K (upd H d (.lst [.ref a, .int 0])) d a ns 0 := by
  refine ⟨upd_same, ?_, (Same.up hd).seq ha, hl⟩
  rcases ha with (h | ⟨o, h⟩) | h
  · exact .inl (ne_of_none h hd)
  · exact .inl (ne_of_none h hd)
  · exact .inr fun H' => .inr h
theorem RowIn.ext {H H' : Hp} {a : Addr} {ns : List Int} (h : RowIn H a ns) (e : ExtN H H') : RowIn H' a ns := ⟨h.1.ext e, h.2⟩
theorem RowsAt.but {d : Addr} {H H' : Hp} {zs : List V} {xs : List V} {ls : List (List Int)} (h : RowsAt H xs ls) (s : But d H H') (hd : H d = some (.lst zs)) : RowsAt H' xs ls :=
  L2.Paired.mapP h fun _ _ ⟨t, e, z⟩ => ⟨t, e, s _ _ (ne_of z hd (by intro q; cases q)) z⟩
theorem TreeAt.but {C d : Addr} {H H' : Hp} {p n w : Nat} {xs : List V} (h : TreeAt C H p n w) (s : But d H H') (hd : H d = some (.lst xs)) : TreeAt C H' p n w := by
  obtain ⟨dx, t, a, b⟩ := h.ob
  exact ⟨⟨dx, t, s _ _ (ne_of a hd (by intro z; cases z)) a, s _ _ (ne_of b hd (by intro z; cases z)) b⟩, h.hn, h.hw⟩
end
end Tw

set_option Elab.async false
set_option linter.all false
set_option maxRecDepth 100000
set_option maxHeartbeats 2000000
namespace Tw
open PySem PySem.Spec PyProof.Rows L2
section
variable {P : Program} {w : World} {K : PySem.W.Frag} {mg : Str → Option Value} {base : Heap} {A : Ad}
open LamX (ExtN Tabs TabS)
/-! parts of what is told: LooP ThAt AtM fdM fdM_row fdM_kept fdM_chains DrAt DrAt.ext DrAt.same But But.of But.trans ne_of ne_of_none RowsAt RowsAt.get RowsAt.same RowsAt.push RowsAt.put AccR AccR.start AccR.push AccR.same Acc Acc.start Acc.push Acc.same sizeLine_eq zI zI_vi zI_inj vi vi_len vi_app walk_list walk_range catTup rowD rowsD_dp rowsL_eqv rowsD_shaped ints_dp ints_eqvL ok_take b_take spTake spLoo ok_loo b_loo tupQ cut_from keyAt key_at keyAt_get set_mem slTup cut_back -/
structure PkP (K : PySem.W.Frag) (d a : Addr) (ns : List Int) (n : Nat) (H0 : Hp) (kk b1 b2 b3 : Nat) (l kp c : Addr) (H : Hp) : Prop where
  dr : ∃ k', k' ≤ kk ∧ DrAt K H d a ns k'
  d0 : ∃ k0, DrAt K H0 d a ns k0
  bt : But d H0 H
  nl : H0 l = none
  nc : H0 c = none
  late : ∃ late : List Int, H l = some (.lst (late.map V.int)) ∧ late.length = n ∧ ∀ z ∈ late, -(b3 : Int) ≤ z ∧ z ≤ b3
  kept : ∃ X : List Nat, H kp = some (.lst (vi X)) ∧ X.length ≤ 9
  chs : ∃ (xs : List V) (CH : List (List Nat)), H c = some (.lst xs) ∧ RowsAt H xs (CH.map zI) ∧ CH.length ≤ b1 ∧ ∀ C ∈ CH, C.length ≤ b2
  lk : l ≠ kp
  lc : l ≠ c
  ck : c ≠ kp
  ld : l ≠ d
  cd : c ≠ d
  kd : kp ≠ d
section
variable {d a l kp c : Addr} {ns : List Int} {n kk b1 b2 b3 : Nat} {H0 H H' : Hp}
theorem PkP.same (h : PkP K d a ns n H0 kk b1 b2 b3 l kp c H) (s : Same H H') : PkP K d a ns n H0 kk b1 b2 b3 l kp c H' := by
  obtain ⟨k, hk, dr⟩ := h.dr
  obtain ⟨late, e1, e2⟩ := h.late
  obtain ⟨X, f1, f2⟩ := h.kept
  obtain ⟨xs, CH, g1, g2, g3⟩ := h.chs
  exact ⟨⟨k, hk, dr.same s⟩, h.d0, h.bt.trans (But.of s), h.nl, h.nc, ⟨late, s _ _ e1, e2⟩, ⟨X, s _ _ f1, f2⟩, ⟨xs, CH, s _ _ g1, g2.same s, g3⟩, h.lk, h.lc, h.ck, h.ld, h.cd, h.kd⟩
theorem PkP.mono {kk' b1' b2' b3' : Nat} (h : PkP K d a ns n H0 kk b1 b2 b3 l kp c H) (q : kk ≤ kk' ∧ b1 ≤ b1' ∧ b2 ≤ b2' ∧ b3 ≤ b3') : PkP K d a ns n H0 kk' b1' b2' b3' l kp c H := by
  obtain ⟨k, hk, dr⟩ := h.dr
  obtain ⟨late, e1, e2, e3⟩ := h.late
  obtain ⟨xs, CH, g1, g2, g3, g4⟩ := h.chs
  exact ⟨⟨k, by omega, dr⟩, h.d0, h.bt, h.nl, h.nc, ⟨late, e1, e2, fun z hz => by have := e3 z hz; omega⟩, h.kept, ⟨xs, CH, g1, g2, by omega, fun C hC => by have := g4 C hC; omega⟩, h.lk, h.lc, h.ck, h.ld, h.cd, h.kd⟩
theorem PkP.fresh (h : PkP K d a ns n H0 kk b1 b2 b3 l kp c H) {p : Addr} (np : H p = none) : H0 p = none ∧ l ≠ p ∧ kp ≠ p ∧ c ≠ p ∧ p ≠ d := by
  obtain ⟨k, hk, dr⟩ := h.dr
  obtain ⟨late, e1, _⟩ := h.late
  obtain ⟨X, f1, _⟩ := h.kept
  obtain ⟨xs, CH, g1, _⟩ := h.chs
  have hpd := (ne_of_none dr.l np).symm
  refine ⟨?_, ne_of_none e1 np, ne_of_none f1 np, ne_of_none g1 np, hpd⟩
  cases h0 : H0 p with
  | none => rfl
  | some o =>
    have := h.bt p o hpd h0
    rw [np] at this
    cases this
theorem PkP.newK (h : PkP K d a ns n H0 kk b1 b2 b3 l kp c H) {p : Addr} {X : List Nat} (np : H p = none) (hl : X.length ≤ 9) : PkP K d a ns n H0 kk b1 b2 b3 l p c (upd H p (.lst (vi X))) := by
  obtain ⟨q0, q1, q2, q3, q4⟩ := h.fresh np
  have h' := h.same (Same.up (o := .lst (vi X)) np)
  exact ⟨h'.dr, h'.d0, h'.bt, h'.nl, h'.nc, h'.late, ⟨X, upd_same, hl⟩, h'.chs, q1, h'.lc, q3, h'.ld, h'.cd, q4⟩
theorem PkP.newC (h : PkP K d a ns n H0 kk b1 b2 b3 l kp c H) {p : Addr} {xs : List V} {CH : List (List Nat)} {b1' b2' : Nat} (np : H p = none) (r : RowsAt H xs (CH.map zI)) (h1 : CH.length ≤ b1') (h2 : ∀ C ∈ CH, C.length ≤ b2') : PkP K d a ns n H0 kk b1' b2' b3 l kp p (upd H p (.lst xs)) := by
  obtain ⟨q0, q1, q2, q3, q4⟩ := h.fresh np
  have s := Same.up (o := .lst xs) np
  have h' := h.same s
  exact ⟨h'.dr, h'.d0, h'.bt, h'.nl, q0, h'.late, h'.kept, ⟨xs, CH, upd_same, r.same s, h1, h2⟩, h'.lk, q1, q2.symm, h'.ld, q4, h'.kd⟩
theorem PkP.newL (h : PkP K d a ns n H0 kk b1 b2 b3 l kp c H) {p : Addr} {late : List Int} (np : H p = none) (h1 : late.length = n) (h2 : ∀ z ∈ late, -(b3 : Int) ≤ z ∧ z ≤ b3) : PkP K d a ns n H0 kk b1 b2 b3 p kp c (upd H p (.lst (late.map V.int))) := by
  obtain ⟨q0, q1, q2, q3, q4⟩ := h.fresh np
  have h' := h.same (Same.up (o := .lst (late.map V.int)) np)
  exact ⟨h'.dr, h'.d0, h'.bt, q0, h'.nc, ⟨late, upd_same, h1, h2⟩, h'.kept, h'.chs, q2.symm, q3.symm, h'.ck, q4, h'.cd, h'.kd⟩
theorem PkP.inC (h : PkP K d a ns n H0 kk b1 b2 b3 l kp c H) {xs : List V} {CH : List (List Nat)} {b1' b2' : Nat} (r : RowsAt H xs (CH.map zI)) (h1 : CH.length ≤ b1') (h2 : ∀ C ∈ CH, C.length ≤ b2') : PkP K d a ns n H0 kk b1' b2' b3 l kp c (upd H c (.lst xs)) := by
  obtain ⟨k, hk, dr⟩ := h.dr
  obtain ⟨late, e1, e2⟩ := h.late
  obtain ⟨X, f1, f2⟩ := h.kept
  obtain ⟨ys, DH, g1, g2, g3⟩ := h.chs
  have bf : But d H0 (upd H c (.lst xs)) := fun b o hb e => by
    rw [upd_ne (ne_of_none e h.nc)]
    exact h.bt _ _ hb e
  obtain ⟨k0, dr0⟩ := h.d0
  exact ⟨⟨k, hk, ⟨by rw [upd_ne h.cd.symm]; exact dr.l, dr.n, bf.seq dr0.s dr0.n, dr.h⟩⟩, h.d0, bf, h.nl, h.nc, ⟨late, by rw [upd_ne h.lc]; exact e1, e2⟩, ⟨X, by rw [upd_ne h.ck.symm]; exact f1, f2⟩, ⟨xs, CH, upd_same, r.put g1, h1, h2⟩, h.lk, h.lc, h.ck, h.ld, h.cd, h.kd⟩
theorem PkP.inL (h : PkP K d a ns n H0 kk b1 b2 b3 l kp c H) {late : List Int} {b3' : Nat} (h1 : late.length = n) (h2 : ∀ z ∈ late, -(b3' : Int) ≤ z ∧ z ≤ b3') : PkP K d a ns n H0 kk b1 b2 b3' l kp c (upd H l (.lst (late.map V.int))) := by
  obtain ⟨k, hk, dr⟩ := h.dr
  obtain ⟨late0, e1, e2⟩ := h.late
  obtain ⟨X, f1, f2⟩ := h.kept
  obtain ⟨ys, DH, g1, g2, g3⟩ := h.chs
  have bf : But d H0 (upd H l (.lst (late.map V.int))) := fun b o hb e => by
    rw [upd_ne (ne_of_none e h.nl)]
    exact h.bt _ _ hb e
  obtain ⟨k0, dr0⟩ := h.d0
  exact ⟨⟨k, hk, ⟨by rw [upd_ne h.ld.symm]; exact dr.l, dr.n, bf.seq dr0.s dr0.n, dr.h⟩⟩, h.d0, bf, h.nl, h.nc, ⟨late, upd_same, h1, h2⟩, ⟨X, by rw [upd_ne h.lk.symm]; exact f1, f2⟩, ⟨ys, DH, by rw [upd_ne h.lc.symm]; exact g1, g2.put e1, g3⟩, h.lk, h.lc, h.ck, h.ld, h.cd, h.kd⟩
theorem PkP.draw (h : PkP K d a ns n H0 kk b1 b2 b3 l kp c H) {k' kk' : Nat} (b : But d H H') (dr : DrAt K H' d a ns k') (hk : k' ≤ kk') : PkP K d a ns n H0 kk' b1 b2 b3 l kp c H' := by
  obtain ⟨k, _, dr0⟩ := h.dr
  obtain ⟨late, e1, e2⟩ := h.late
  obtain ⟨X, f1, f2⟩ := h.kept
  obtain ⟨xs, CH, g1, g2, g3⟩ := h.chs
  exact ⟨⟨k', hk, dr⟩, h.d0, h.bt.trans b, h.nl, h.nc, ⟨late, b _ _ h.ld e1, e2⟩, ⟨X, b _ _ h.kd f1, f2⟩, ⟨xs, CH, b _ _ h.cd g1, g2.but b dr0.l, g3⟩, h.lk, h.lc, h.ck, h.ld, h.cd, h.kd⟩
theorem PkP.newK2 (h : PkP K d a ns n H0 kk b1 b2 b3 l kp c H) {p : Addr} {X : List Nat} (np : H p = none) (s : Same H H') (e : H' p = some (.lst (vi X))) (hl : X.length ≤ 9) : PkP K d a ns n H0 kk b1 b2 b3 l p c H' := by
  obtain ⟨q0, q1, q2, q3, q4⟩ := h.fresh np
  have h' := h.same s
  exact ⟨h'.dr, h'.d0, h'.bt, h'.nl, h'.nc, h'.late, ⟨X, e, hl⟩, h'.chs, q1, h'.lc, q3, h'.ld, h'.cd, q4⟩
theorem PkP.newC2 (h : PkP K d a ns n H0 kk b1 b2 b3 l kp c H) {p : Addr} {xs : List V} {CH : List (List Nat)} {b1' b2' : Nat} (np : H p = none) (s : Same H H') (e : H' p = some (.lst xs)) (r : RowsAt H' xs (CH.map zI)) (h1 : CH.length ≤ b1') (h2 : ∀ C ∈ CH, C.length ≤ b2') : PkP K d a ns n H0 kk b1' b2' b3 l kp p H' := by
  obtain ⟨q0, q1, q2, q3, q4⟩ := h.fresh np
  have h' := h.same s
  exact ⟨h'.dr, h'.d0, h'.bt, h'.nl, q0, h'.late, h'.kept, ⟨xs, CH, e, r, h1, h2⟩, h'.lk, q1, q2.symm, h'.ld, q4, h'.kd⟩
end
theorem nn_ints {K : PySem.W.Frag} {σ : L2.St} {i : Nat} {q : Addr} {ms : List Int} {H : Hp} {Q : VK} (hi : σ[i]? = some (some (.ref q))) (e : H q = some (.lst (ms.map V.int))) (k : ∀ H' : Hp, Same H H' → Q (.bl (!decide (ms = []))) H') : tOp (L2.rNeD K) (tVar i) (tLst tNil) σ H Q := by
  refine ⟨_, hi, by show 0 ≤ sizeLine; decide, fun u nu => ?_⟩
  have s := Same.up (o := .lst []) nu
  refine ⟨.list (ms.map PyData.int), .list (([] : List Int).map PyData.int), .lst (SqL.of (s _ _ e)) (ints_dp _ _ _), .lst (SqL.of upd_same) (ints_dp _ _ []), shaped_ints _, shaped_ints [], ?_⟩
  rw [ints_eqvL]
  exact k _ s
theorem nn_rows {K : PySem.W.Frag} {σ : L2.St} {i : Nat} {q : Addr} {xs : List V} {ls : List (List Int)} {H : Hp} {Q : VK} (hi : σ[i]? = some (some (.ref q))) (e : H q = some (.lst xs)) (r : RowsAt H xs ls) (k : ∀ H' : Hp, Same H H' → Q (.bl (!decide (ls = []))) H') : tOp (L2.rNeD K) (tVar i) (tLst tNil) σ H Q := by
  refine ⟨_, hi, by show 0 ≤ sizeLine; decide, fun u nu => ?_⟩
  have s := Same.up (o := .lst []) nu
  refine ⟨.list (ls.map rowD), .list (([] : List (List Int)).map rowD), .lst (SqL.of (s _ _ e)) (rowsD_dp (r.same s)), .lst (SqL.of upd_same) .nil, rowsD_shaped _, rowsD_shaped [], ?_⟩
  rw [rowsL_eqv]
  exact k _ s
theorem paired_drop {α β : Type} {R : α → β → Prop} : ∀ (m : Nat) {xs : List α} {ls : List β}, Paired R xs ls → Paired R (xs.drop m) (ls.drop m)
  | 0, _, _, h => h
  | _ + 1, _, _, .nil => .nil
  | m + 1, _, _, .cons _ b => paired_drop m b
theorem rows_rev {H : Hp} : ∀ {xs : List V} {ls : List (List Int)}, RowsAt H xs ls → RowsAt H xs.reverse ls.reverse
  | _, _, .nil => .nil
  | _, _, .cons a b => by
    rw [List.reverse_cons, List.reverse_cons]
    exact RowsAt.push a (rows_rev b)
theorem rows_set {H : Hp} {t : Addr} {b : List Int} : ∀ (j : Nat) {xs : List V} {ls : List (List Int)}, RowsAt H xs ls → H t = some (.tup (b.map V.int)) → RowsAt H (xs.set j (.ref t)) (ls.set j b)
  | _, _, _, .nil, _ => .nil
  | 0, _, _, .cons _ r, h => .cons ⟨t, rfl, h⟩ r
  | j + 1, _, _, .cons a r, h => .cons a (rows_set j r h)
theorem len_set {CH : List (List Nat)} {j : Nat} {C : List Nat} {b b' : Nat} (h : ∀ D ∈ CH, D.length ≤ b) (hb : b ≤ b') (hC : C.length ≤ b') : ∀ D ∈ CH.set j C, D.length ≤ b' := fun D hD => by
  rcases List.mem_or_eq_of_mem_set hD with hD | rfl
  · have := h D hD
    omega
  · exact hC
theorem same_it {K : PySem.W.Frag} {σ : L2.St} {r l : Addr} {late ks : List Int} {G : Hp} {Q : VK} (h1 : ∀ v, (((wipe σ [9]).set 9 v))[1]? = some (some (.ref r))) (h0 : σ[1]? = some (some (.ref r))) (h4 : ∀ v, (((wipe σ [9]).set 9 v))[4]? = some (some (.ref l))) (h9 : ∀ v, (((wipe σ [9]).set 9 v))[9]? = some v) (hw : ∀ v, wipe ((wipe σ [9]).set 9 v) [9] = wipe σ [9])
    (er : G r = some (.lst (ks.map V.int))) (el : G l = some (.lst (late.map V.int))) (hl : late.length = ks.length) (hn : ks.length ≤ 9) (q : ∀ (D : Addr) (H' : Hp), G D = none → Same G H' → H' D = some (.lst (vi ((List.range ks.length).filter fun i => decide (keyAt late i = keyAt ks i)))) → Q (.ref D) H') :
    tLc (iRng1 (tCons (tCB (rLn K) (tCons (tVar 1) tNil)) tNil)) (gName 9) (tTest (tOp rEq (tOp (rIxL K) (tVar 4) (tVar 9)) (tOp (rIxL K) (tVar 1) (tVar 9)))) (tVar 9) [9] σ G Q := by
  refine ⟨_, h0, r, ks.map V.int, rfl, .inl (SqL.of er), _, rfl, by rw [List.length_map]; omega, by rw [List.length_map]; omega, fun D nD => ?_⟩
  refine lc_it (walk_range (lo := 0) (n := _)) (fun j H' => Acc G D (vi ((List.range j).filter fun i => decide (keyAt late i = keyAt ks i))) H') (Acc.start nD) (fun _ _ _ _ => trivial) ?_ ?_
  · rintro j y H10 H11 hj ac ⟨rfl, hy⟩
    obtain rfl : y = V.int (j : Nat) := by
      rw [hy]
      show V.int (0 + (j : Int)) = _
      rw [Int.zero_add]
    rw [List.length_map, Int.toNat_natCast] at hj
    rw [List.range_succ, List.filter_append]
    have hfl := List.length_filter_le (fun i => decide (keyAt late i = keyAt ks i)) (List.range j)
    rw [List.length_range] at hfl
    refine ⟨hw _, _, h4 _, _, h9 _, l, _, _, _, rfl, rfl, SqL.of (ac.s _ _ el), key_at (show j < late.length by omega), _, h1 _, _, h9 _, r, _, _, _, rfl, rfl, SqL.of (ac.s _ _ er), key_at hj, rfl, _, rfl, ?_⟩
    by_cases he : keyAt late j = keyAt ks j
    · rw [List.filter_cons_of_pos (p := fun i => decide (keyAt late i = keyAt ks i)) (decide_eq_true he), List.filter_nil, vi_app]
      exact ite_b (c := true) (decide_eq_true (by rw [he])) (iteT ⟨_, h9 _, _, ac.a, by rw [vi_len, sizeLine_eq]; omega, ac.push⟩)
    · rw [List.filter_cons_of_neg (p := fun i => decide (keyAt late i = keyAt ks i)) (by rw [decide_eq_true_eq]; exact he), List.filter_nil, List.append_nil]
      exact ite_b (c := false) (decide_eq_false fun z => he (by injection z)) (iteF ac)
  · rintro H10 ac
    have ea := ac.a
    rw [List.length_map, Int.toNat_natCast] at ea
    exact q D H10 nD ac.s ea
theorem filt_le (n : Nat) (q : Nat → Bool) (hn : n ≤ 9) : ((List.range n).filter q).length ≤ 9 := by
  have := List.length_filter_le q (List.range n)
  rw [List.length_range] at this
  omega
theorem ix0 {n : Nat} (h : 0 < n) : ixN n 0 = some 0 := by
  unfold ixN
  rw [if_pos (by omega), if_pos (by omega)]
  rfl
theorem ixS2 {n j : Nat} (h : j < n) : ixN n (j : Int) = some j := by
  unfold ixN
  rw [if_pos (by omega), if_pos (by omega)]
  rfl
def dropC (C : List Nat) : List Nat := if 1 < C.length then C.dropLast else C
theorem dropC_len (C : List Nat) : (dropC C).length ≤ C.length := by
  unfold dropC
  split
  · rw [List.length_dropLast]; omega
  · exact Nat.le_refl _
abbrev SG (d r p : Addr) (w1 : Nat) (l kp c : Addr) (wy : Nat) (x8 : Option V) : L2.St := [some (.ref d), some (.ref r), some (.ref p), some (.int w1), some (.ref l), some (.ref kp), some (.ref c), some (.int wy), x8, none, none]
def spPrt (K : PySem.W.Frag) (A : Ad) : Sp := fun vs H Q _ => ∃ (d r p w a : Nat) (ns ks x0 : List Int) (X : List Nat) (CH : List (List Nat)) (k : Nat), vs = [.ref d, .ref r, .ref p, .int w] ∧ DrAt K H d a ns k ∧ k < 50000 ∧ (1 ≤ w ∧ w ≤ 4) ∧ r ≠ d ∧ H r = some (.lst (ks.map V.int)) ∧ ks.length ≤ 9 ∧ (∀ z ∈ ks, -500 ≤ z ∧ z ≤ 500) ∧
  AtM A.CM H p x0 X CH ∧ x0.length = ks.length ∧ (∀ z ∈ x0, -500 ≤ z ∧ z ≤ 500) ∧ X.length ≤ 9 ∧ CH.length ≤ 9 ∧ (∀ C ∈ CH, C.length ≤ 9) ∧
  ∀ (H' : Hp) (t : Addr) (late : List Int) (X' : List Nat) (CH' : List (List Nat)) (k' : Nat), But d H H' → DrAt K H' d a ns k' → k' ≤ k + 4 → ThAt H' t late X' CH' → late.length = ks.length → (∀ z ∈ late, -1000 ≤ z ∧ z ≤ 1000) → X'.length ≤ 9 → CH'.length ≤ 20 → (∀ C ∈ CH', C.length ≤ 40) → Q (.ref t) H'
theorem ok_prt (T : Tx K mg A) : FnOk P w K mg base CX0 6 A.f__law_parts A.d__law_parts ["draw", "row", "found", "wide"] (spPrt K A) := by
  refine T.F__law_parts.ok sc__law_parts (fun vs H Q E h => ?_) (fun cdv B outer s H vs Q E hr h => ?_)
  · obtain ⟨d, r, p, w, a, ns, ks, x0, X, CH, k, rfl, _⟩ := h
    rfl
  · obtain ⟨d, r, p, w1, a, ns, ks, x0, X, CH, k, rfl, dr, hk, hw, hrd, er, hn, hkb, am, hx0, hxb, hX9, hC9, hCl, q⟩ := h
    have nd := sc__law_parts.nd
    have hu := hr.units
    obtain ⟨n, hnn⟩ : ∃ n, n = ks.length := ⟨_, rfl⟩
    have hn9 : n ≤ 9 := by omega
    obtain ⟨dx, tr, tk, tc, xs, g1, gr, gk, gc, grow⟩ := id am
    have hxsl : xs.length = CH.length := by rw [Paired.length grow, List.length_map]
    refine ⟨_, PSs.nox (C8.pss_cut (ps_asg (pe_tup (pa_cons (pe_callTy (r := rListK K) call_listK (by rfl) T.g_list (by decide +kernel) (pa_cons (pe_fld (pv 2) rfl) pa_nil)) (pa_cons (pe_callTy (r := rListK K) call_listK (by rfl) T.g_list (by decide +kernel) (pa_cons (pe_fld (pv 2) rfl) pa_nil)) (pa_cons (pe_callTy (r := rListK K) call_listK (by rfl) T.g_list (by decide +kernel) (pa_cons (pe_fld (pv 2) rfl) pa_nil)) pa_nil)))) (pg_tup rfl (pgs_cons (pg_name (i := 4) nd rfl (Or.inr rfl)) (pgs_cons (pg_name (i := 5) nd rfl (Or.inl rfl)) (pgs_cons (pg_name (i := 6) nd rfl (Or.inl rfl)) pgs_nil)))))
      (C8.pss_cut (ps_set (i := 7) nd rfl (Or.inl rfl) (pe_call (ok_take T) (hr.mono (by decide)) (by rfl) T.m__law_take T.F__law_take.kp (b_take T) .nil pass0 (pa_cons (pv 0) (pa_cons pe_int pa_nil))))
      (C8.pss_cut (ps_if (PW.pt (pw_and (pt_cmpR op_eq (pv 7) pe_int (nomark _)) (pw_and1 (pt_cmpR (op_neD hu) (pv 5) (pe_lst pa_nil) (nomark _))))) (pss_one (ps_set (i := 5) nd rfl (Or.inl rfl) (pe_slice (r := rSlL K) sl_list (pv 5) (po_some pe_int) po_none))) pss_nil)
      (C8.pss_cut (ps_if (PW.pt (pw_and (pt_cmpR op_eq (pv 7) pe_int (nomark _)) (pw_and1 (pt_cmpR (op_neD hu) (pv 6) (pe_lst pa_nil) (nomark _))))) (pss_one (ps_set (i := 6) nd rfl (Or.inl rfl) (pe_slice (r := rSlL K) sl_list (pv 6) (po_some pe_int) po_none))) pss_nil)
      (C8.pss_cut (ps_if (pt_cmpR op_eq (pv 7) pe_int (nomark _)) (pss_one (ps_set (i := 6) nd rfl (Or.inl rfl) (pe_revL (pv 6)))) pss_nil)
      (C8.pss_cut (ps_if (PW.pt (pw_and (pt_cmpR op_eq (pv 7) pe_int (nomark _)) (pw_and1 (pt_cmpR (op_neD hu) (pv 4) (pe_lst pa_nil) (nomark _))))) (C8.pss_cut (ps_asg (pe_op op_add (pe_ix (r := rIxL K) ix_list (pv 4) pe_int (fun _ _ => rfl)) (pe_call (ok_take T) (hr.mono (by decide)) (by rfl) T.m__law_take T.F__law_take.kp (b_take T) .nil pass0 (pa_cons (pv 0) (pa_cons pe_int pa_nil)))) (pg_sub (pv 4) (pe_call (ok_take T) (hr.mono (by decide)) (by rfl) T.m__law_take T.F__law_take.kp (b_take T) .nil pass0 (pa_cons (pv 0) (pa_cons (pe_callB (r := rLn K) call_len_seq (by rfl) T.g_len PySem.boot_len (pa_cons (pv 4) pa_nil)) pa_nil))) set_list))
      (pss_one (ps_setLc (i := 5) (own := [("place", 9)]) (g := gName 9) rfl nd rfl rfl (sw_true rfl rfl rfl (by decide +kernel)) (pi_range1 rfl T.g_range (pa_cons (pe_callB (r := rLn K) call_len_seq (by rfl) T.g_len PySem.boot_len (pa_cons (pv 1) pa_nil)) pa_nil)) (blkOk_by (own := [("place", 9)]) (N := ["draw", "row", "found", "wide", "late", "kept", "chains", "way", "spot", "place", "chain"]) (sc := defScope s__law_parts) (by decide +kernel)) (fun _ _ _ _ _ => pg_name (i := 9) nd rfl (Or.inl rfl)) (fun _ _ _ _ _ => pts_one (pt_cmpR op_eq (pe_ix (r := rIxL K) ix_list (pv 4) (pv 9) (fun _ _ => rfl)) (pe_ix (r := rIxL K) ix_list (pv 1) (pv 9) (fun _ _ => rfl)) (nomark _))) (fun _ _ _ _ _ => (pv 9))))) pss_nil)
      (C8.pss_cut (ps_if (pt_cmpR op_eq (pv 7) pe_int (nomark _)) (C8.pss_cut (ps_set (i := 4) nd rfl (Or.inr rfl) (pe_callB cr_sortedI (by rfl) T.g_sorted (by decide +kernel) (pa_cons (pv 1) pa_nil)))
      (pss_one (ps_setLc (i := 5) (own := [("place", 9)]) (g := gName 9) rfl nd rfl rfl (sw_true rfl rfl rfl (by decide +kernel)) (pi_range1 rfl T.g_range (pa_cons (pe_callB (r := rLn K) call_len_seq (by rfl) T.g_len PySem.boot_len (pa_cons (pv 1) pa_nil)) pa_nil)) (blkOk_by (own := [("place", 9)]) (N := ["draw", "row", "found", "wide", "late", "kept", "chains", "way", "spot", "place", "chain"]) (sc := defScope s__law_parts) (by decide +kernel)) (fun _ _ _ _ _ => pg_name (i := 9) nd rfl (Or.inl rfl)) (fun _ _ _ _ _ => pts_one (pt_cmpR op_eq (pe_ix (r := rIxL K) ix_list (pv 4) (pv 9) (fun _ _ => rfl)) (pe_ix (r := rIxL K) ix_list (pv 1) (pv 9) (fun _ _ => rfl)) (nomark _))) (fun _ _ _ _ _ => (pv 9))))) pss_nil)
      (C8.pss_cut (ps_if (PW.pt (pw_and (pt_cmpR op_eq (pv 7) pe_int (nomark _)) (pw_and1 (pt_cmpR (op_neD hu) (pv 6) (pe_lst pa_nil) (nomark _))))) (C8.pss_cut (ps_set (i := 8) nd rfl (Or.inl rfl) (pe_call (ok_take T) (hr.mono (by decide)) (by rfl) T.m__law_take T.F__law_take.kp (b_take T) .nil pass0 (pa_cons (pv 0) (pa_cons (pe_callB (r := rLn K) call_len_seq (by rfl) T.g_len PySem.boot_len (pa_cons (pv 6) pa_nil)) pa_nil))))
      (pss_one (ps_asg (pe_revT (pe_ix (r := rIxL K) ix_list (pv 6) (pv 8) (fun _ _ => rfl)) (pe_un un_neg pe_int)) (pg_sub (pv 6) (pv 8) set_list)))) pss_nil)
      (C8.pss_cut (ps_if (pt_cmpR op_eq (pv 7) pe_int (nomark _)) (pss_one (ps_set (i := 6) nd rfl (Or.inl rfl) (pe_op op_cat (pv 6) (pe_lst (pa_cons (pe_tup pa_nil) pa_nil))))) pss_nil)
      (C8.pss_cut (ps_if (PW.pt (pw_and (pt_cmpR op_eq (pv 7) pe_int (nomark _)) (pw_and1 (pt_cmpR (op_neD hu) (pv 6) (pe_lst pa_nil) (nomark _))))) (pss_one (ps_asg (pe_op (r := rCatA K) op_catA (pe_ix (r := rIxL K) ix_list (pv 6) pe_int (fun _ _ => rfl)) (pe_tup (pa_cons (pe_callB (r := rLn K) call_len_seq (by rfl) T.g_len PySem.boot_len (pa_cons (pv 1) pa_nil)) pa_nil))) (pg_sub (pv 6) pe_int set_list))) pss_nil)
      (C8.pss_cut (ps_if (PW.pt (pw_and (pt_cmpR op_eq (pv 7) pe_int (nomark _)) (pw_and1 (pt_cmpR op_gt (pe_callB (r := rLn K) call_len_seq (by rfl) T.g_len PySem.boot_len (pa_cons (pv 6) pa_nil)) pe_int (nomark _))))) (pss_one (ps_set (i := 6) nd rfl (Or.inl rfl) (pe_op op_cat (pe_lst (pa_cons (pe_op (r := rCatA K) op_catA (pe_ix (r := rIxL K) ix_list (pv 6) pe_int (fun _ _ => rfl)) (pe_ix (r := rIxL K) ix_list (pv 6) pe_int (fun _ _ => rfl))) pa_nil)) (pe_slice (r := rSlL K) sl_list (pv 6) (po_some pe_int) po_none)))) pss_nil)
      (C8.pss_cut (ps_if (pt_cmpR op_eq (pv 7) pe_int (nomark _)) (pss_one (ps_set (i := 5) nd rfl (Or.inl rfl) (pe_revL (pv 5)))) pss_nil)
      (C8.pss_cut (ps_if (pt_cmpR op_eq (pv 7) pe_int (nomark _)) (pss_one (ps_setLc (i := 6) (own := [("chain", 10)]) (g := gName 10) (tt := tYes) rfl nd rfl rfl (sw_true rfl rfl rfl (by decide +kernel)) (pi_list (pv 6)) (blkOk_by (own := [("chain", 10)]) (N := ["draw", "row", "found", "wide", "late", "kept", "chains", "way", "spot", "place", "chain"]) (sc := defScope s__law_parts) (by decide +kernel)) (fun _ _ _ _ _ => pg_name (i := 10) nd rfl (Or.inl rfl)) (fun _ _ _ _ _ => pts_nil) (fun _ _ _ _ _ => (pe_ifExp (pt_cmpR op_gt (pe_callB (r := rLn K) call_len_seq (by rfl) T.g_len PySem.boot_len (pa_cons (pv 10) pa_nil)) pe_int (nomark _)) (pe_slice (r := rSlA K) sl_tupA (pv 10) po_none (po_some (pe_un un_neg pe_int))) (pv 10))))) pss_nil)
      (C8.pss_cut (ps_if (PW.pt (pw_and (pt_cmpR op_eq (pv 7) pe_int (nomark _)) (pw_and1 (pt_cmpR (op_neD hu) (pv 6) (pe_lst pa_nil) (nomark _))))) (pss_one (ps_asg (pe_ix (r := rIxL K) ix_list (pv 6) (pe_un un_neg pe_int) (fun _ _ => rfl)) (pg_sub (pv 6) pe_int set_list))) pss_nil)
      (C8.pss_cut (ps_if (pt_cmpR op_eq (pv 7) pe_int (nomark _)) (pss_one (ps_set (i := 6) nd rfl (Or.inl rfl) (pe_call (ok_loo T) (hr.mono (by decide)) (by rfl) T.m__law_loose T.F__law_loose.kp (b_loo T) .nil pass0 (pa_cons (pv 1) (pa_cons (pv 3) (pa_cons (pe_callB (r := rLn K) call_len_seq (by rfl) T.g_len PySem.boot_len (pa_cons (pv 5) pa_nil)) pa_nil)))))) pss_nil)
      (pss_one (ps_ret (pe_tup (pa_cons (pe_callTy (r := rTupK K) call_tupleK (by rfl) T.g_tuple (by decide +kernel) (pa_cons (pv 4) pa_nil)) (pa_cons (pe_callTy (r := rTupK K) call_tupleK (by rfl) T.g_tuple (by decide +kernel) (pa_cons (pv 5) pa_nil)) (pa_cons (pv 6) pa_nil))))))))))))))))))))), ?_⟩
    refine ⟨fun σ' H' => ∃ (l kp c : Addr), σ' = [some (.ref d), some (.ref r), some (.ref p), some (.int w1), some (.ref l), some (.ref kp), some (.ref c), none, none, none, none] ∧ PkP K d a ns n H k 9 9 500 l kp c H', ?_, ?_⟩
    · refine ⟨_, rfl, p, A.CM, dx, _, _, rfl, g1, T.cTM, T.mRow, fdM_row _ _ _, tr, _, rfl, .inr (SqT.of gr), fun l nl => ?_⟩
      have sl := Same.up (o := .lst (x0.map V.int)) nl
      refine ⟨_, rfl, p, A.CM, dx, _, _, rfl, sl _ _ g1, T.cTM, T.mKept, fdM_kept _ _ _, tk, _, rfl, .inr (SqT.of (sl _ _ gk)), fun kp nkp => ?_⟩
      have sk := sl.trans (Same.up (o := .lst (vi X)) nkp)
      refine ⟨_, rfl, p, A.CM, dx, _, _, rfl, sk _ _ g1, T.cTM, T.mChains, fdM_chains _ _ _, tc, _, rfl, .inl (SqL.of (sk _ _ gc)), fun c nc => ?_⟩
      have sc := sk.trans (Same.up (o := .lst xs) nc)
      refine ⟨by show 3 ≤ sizeLine; decide, fun t nt => ?_⟩
      have st := sc.trans (Same.up (o := .tup [V.ref l, V.ref kp, V.ref c]) nt)
      have el := ((Same.up (o := .lst (vi X)) nkp).trans ((Same.up (o := .lst xs) nc).trans (Same.up (o := .tup [V.ref l, V.ref kp, V.ref c]) nt))) _ _ (upd_same (H := H) (a := l) (o := .lst (x0.map V.int)))
      have ek := ((Same.up (o := .lst xs) nc).trans (Same.up (o := .tup [V.ref l, V.ref kp, V.ref c]) nt)) _ _ (upd_same (H := upd H l (.lst (x0.map V.int))) (a := kp) (o := .lst (vi X)))
      have ec := (Same.up (o := .tup [V.ref l, V.ref kp, V.ref c]) nt) _ _ (upd_same (H := upd (upd H l (.lst (x0.map V.int))) kp (.lst (vi X))) (a := c) (o := .lst xs))
      have hkl : l ≠ kp := fun z => by rw [← z, upd_same] at nkp; cases nkp
      have hcl : l ≠ c := fun z => by rw [← z, upd_ne hkl, upd_same] at nc; cases nc
      have hck : c ≠ kp := fun z => by rw [z, upd_same] at nc; cases nc
      have hc0 : H c = none := by rw [upd_ne hck, upd_ne hcl.symm] at nc; exact nc
      have hk0 : H kp = none := by rw [upd_ne hkl.symm] at nkp; exact nkp
      exact ⟨_, _, rfl, SqT.of upd_same, rfl, _, _, rfl, _, _, rfl, _, _, rfl, rfl, l, kp, c, rfl, ⟨k, Nat.le_refl _, dr.same st⟩, ⟨k, dr⟩, But.of st, nl, hc0, ⟨x0, el, by rw [hx0, hnn], hxb⟩, ⟨X, ek, hX9⟩, ⟨xs, CH, ec, grow.same st, hC9, hCl⟩, hkl, hcl, hck, (ne_of_none dr.l nl).symm, (ne_of_none dr.l hc0).symm, (ne_of_none dr.l hk0).symm⟩
    rintro σ' H1 ⟨l, kp, c, rfl, pk1⟩
    refine ⟨fun σ' H' => ∃ (wy : Nat), σ' = SG d r p w1 l kp c wy none ∧ PkP K d a ns n H (k + 1) 9 9 500 l kp c H', ?_, ?_⟩
    · obtain ⟨k1, hk1, dr1⟩ := pk1.dr
      exact ⟨_, rfl, d, a, ns, k1, 13, rfl, dr1, by omega, by decide, fun H2 wy b2 dr2 hwy => ⟨wy, rfl, pk1.draw b2 dr2 (by omega)⟩⟩
    rintro σ' H2 ⟨wy, rfl, pk2⟩
    -- way 0
    refine ⟨fun σ' H' => ∃ (kp : Addr), σ' = SG d r p w1 l kp c wy none ∧ PkP K d a ns n H (k + 1) 9 9 500 l kp c H', ?_, ?_⟩
    · refine ⟨_, rfl, rfl, _, rfl, ?_⟩
      by_cases h0 : wy = 0
      case neg => exact ite_b (c := false) (decide_eq_false fun z => h0 (by injection z with z; omega)) (iteF (iteF ⟨kp, rfl, pk2⟩))
      refine ite_b (c := true) (decide_eq_true (by rw [h0]; rfl)) (iteT ?_)
      obtain ⟨X2, f1, f2⟩ := pk2.kept
      refine nn_ints (q := kp) (ms := zI X2) rfl (by rw [zI_vi]; exact f1) fun H3 s3 => ⟨_, rfl, ?_⟩
      have pk3 := pk2.same s3
      by_cases hX2 : zI X2 = []
      · exact ite_b (c := false) (by rw [decide_eq_true hX2]; rfl) (iteF ⟨kp, rfl, pk3⟩)
      refine ite_b (c := true) (by rw [decide_eq_false hX2]; rfl) (iteT ?_)
      unfold tNoPart
      refine ⟨_, rfl, _, rfl, kp, vi X2, rfl, SqL.of (s3 _ _ f1), fun p5 np5 => ⟨p5, rfl, ?_⟩⟩
      have hcut : cutV (vi X2) (some (1 : Int)) none = vi (X2.drop 1) := by
        rw [show (1 : Int) = ((1 : Nat) : Int) from rfl, cut_from]
        unfold vi
        rw [List.map_drop]
      rw [hcut]
      exact pk3.newK np5 (by rw [List.length_drop]; omega)
    rintro σ' H3 ⟨kp, rfl, pk3⟩
    -- way 1
    refine ⟨fun σ' H' => ∃ (c : Addr), σ' = SG d r p w1 l kp c wy none ∧ PkP K d a ns n H (k + 1) 9 9 500 l kp c H', ?_, ?_⟩
    · refine ⟨_, rfl, rfl, _, rfl, ?_⟩
      by_cases h0 : wy = 1
      case neg => exact ite_b (c := false) (decide_eq_false fun z => h0 (by injection z with z; omega)) (iteF (iteF ⟨c, rfl, pk3⟩))
      refine ite_b (c := true) (decide_eq_true (by rw [h0]; rfl)) (iteT ?_)
      obtain ⟨ys, DH, g1, g2, g3, g4⟩ := pk3.chs
      refine nn_rows (q := c) rfl g1 g2 fun H4 s4 => ⟨_, rfl, ?_⟩
      have pk4 := pk3.same s4
      by_cases hD : DH.map zI = []
      · exact ite_b (c := false) (by rw [decide_eq_true hD]; rfl) (iteF ⟨c, rfl, pk4⟩)
      refine ite_b (c := true) (by rw [decide_eq_false hD]; rfl) (iteT ?_)
      unfold tNoPart
      refine ⟨_, rfl, _, rfl, c, ys, rfl, SqL.of (s4 _ _ g1), fun p5 np5 => ⟨p5, rfl, ?_⟩⟩
      rw [show (1 : Int) = ((1 : Nat) : Int) from rfl, cut_from]
      exact pk4.newC (CH := DH.drop 1) np5 (by rw [List.map_drop]; exact paired_drop 1 (g2.same s4)) (by rw [List.length_drop]; omega) fun C hC => g4 C (List.mem_of_mem_drop hC)
    rintro σ' H4 ⟨c, rfl, pk4⟩
    -- way 2
    refine ⟨fun σ' H' => ∃ (c : Addr), σ' = SG d r p w1 l kp c wy none ∧ PkP K d a ns n H (k + 1) 9 9 500 l kp c H', ?_, ?_⟩
    · refine ⟨_, rfl, rfl, _, rfl, ?_⟩
      by_cases h0 : wy = 2
      case neg => exact ite_b (c := false) (decide_eq_false fun z => h0 (by injection z with z; omega)) (iteF ⟨c, rfl, pk4⟩)
      refine ite_b (c := true) (decide_eq_true (by rw [h0]; rfl)) (iteT ?_)
      obtain ⟨ys, DH, g1, g2, g3, g4⟩ := pk4.chs
      refine ⟨_, rfl, c, ys, rfl, SqL.of g1, fun p5 np5 => ⟨p5, rfl, ?_⟩⟩
      exact pk4.newC (CH := DH.reverse) np5 (by rw [List.map_reverse]; exact rows_rev g2) (by rw [List.length_reverse]; exact g3) fun C hC => g4 C (List.mem_reverse.mp hC)
    rintro σ' H5 ⟨c, rfl, pk5⟩
    -- way 3
    refine ⟨fun σ' H' => ∃ (kp : Addr), σ' = SG d r p w1 l kp c wy none ∧ PkP K d a ns n H (k + 3) 9 9 600 l kp c H', ?_, ?_⟩
    · refine ⟨_, rfl, rfl, _, rfl, ?_⟩
      by_cases h0 : wy = 3
      case neg => exact ite_b (c := false) (decide_eq_false fun z => h0 (by injection z with z; omega)) (iteF (iteF ⟨kp, rfl, pk5.mono (by omega)⟩))
      refine ite_b (c := true) (decide_eq_true (by rw [h0]; rfl)) (iteT ?_)
      obtain ⟨late, e1, e2, e3⟩ := pk5.late
      refine nn_ints (q := l) rfl e1 fun H6 s6 => ⟨_, rfl, ?_⟩
      have pk6 := pk5.same s6
      by_cases hD : late = []
      · exact ite_b (c := false) (by rw [decide_eq_true hD]; rfl) (iteF ⟨kp, rfl, pk6.mono (by omega)⟩)
      refine ite_b (c := true) (by rw [decide_eq_false hD]; rfl) (iteT ?_)
      have hlp := List.length_pos_iff.mpr hD
      refine ⟨fun σ' H' => ∃ late : List Int, σ' = SG d r p w1 l kp c wy none ∧ PkP K d a ns n H (k + 3) 9 9 600 l kp c H' ∧ H' l = some (.lst (late.map V.int)) ∧ late.length = n, ?_, ?_⟩
      · obtain ⟨k6, hk6, dr6⟩ := pk6.dr
        refine ⟨_, rfl, l, _, _, _, rfl, rfl, SqL.of (s6 _ _ e1), key_at (p := 0) hlp, _, rfl, d, a, ns, k6, 3, rfl, dr6, by omega, by decide, fun H7 v b7 dr7 hv => ?_⟩
        have pk7 := pk6.draw (kk' := k + 2) b7 dr7 (by omega)
        have el7 := b7 _ _ pk6.ld (s6 _ _ e1)
        refine ⟨_, _, rfl, rfl, _, rfl, _, rfl, _, rfl, l, _, rfl, .inl (SqL.of el7), d, a, ns, k6 + 1, late.length, by rw [List.length_map]; rfl, dr7, by omega, hlp, fun H8 sp b8 dr8 hsp => ?_⟩
        have pk8 := pk7.draw (kk' := k + 3) b8 dr8 (by omega)
        have el8 := b8 _ _ pk7.ld el7
        refine ⟨l, late.map V.int, _, sp, rfl, rfl, el8, ?_, late.set sp (keyAt late 0 + v), rfl, ?_, ?_, by rw [List.length_set]; exact e2⟩
        · unfold ixN
          rw [if_pos (by omega), if_pos (by rw [List.length_map]; omega)]
          rfl
        · rw [← List.map_set]
          refine pk8.inL (by rw [List.length_set]; exact e2) fun z hz => ?_
          rcases set_mem hz with hz | rfl
          · have := e3 z hz
            omega
          · have := e3 _ (keyAt_mem hlp)
            omega
        · rw [upd_same, List.map_set]
      rintro σ' H7 ⟨late, rfl, pk7, el7, hl7⟩
      have er7 := pk7.bt _ _ hrd er
      exact same_it (r := r) (l := l) (late := late) (ks := ks) (fun _ => rfl) rfl (fun _ => rfl) (fun _ => rfl) (fun _ => rfl) er7 el7 (hl7.trans hnn) hn fun D H8 nD s8 eD => ⟨D, rfl, pk7.newK2 nD s8 eD (filt_le _ _ hn)⟩
    rintro σ' H6 ⟨kp, rfl, pk6⟩
    -- way 4
    refine ⟨fun σ' H' => ∃ (l kp : Addr), σ' = SG d r p w1 l kp c wy none ∧ PkP K d a ns n H (k + 3) 9 9 600 l kp c H', ?_, ?_⟩
    · refine ⟨_, rfl, rfl, _, rfl, ?_⟩
      by_cases h0 : wy = 4
      case neg => exact ite_b (c := false) (decide_eq_false fun z => h0 (by injection z with z; omega)) (iteF ⟨l, kp, rfl, pk6⟩)
      refine ite_b (c := true) (decide_eq_true (by rw [h0]; rfl)) (iteT ?_)
      refine ⟨fun σ' H' => ∃ (l : Addr) (late : List Int), σ' = SG d r p w1 l kp c wy none ∧ PkP K d a ns n H (k + 3) 9 9 600 l kp c H' ∧ H' l = some (.lst (late.map V.int)) ∧ late.length = n, ?_, ?_⟩
      · refine ⟨_, rfl, r, ks, rfl, SqL.of (pk6.bt _ _ hrd er), fun us o hpu hsu no => ⟨o, us, rfl, pk6.newL no (hpu.length_eq.trans hnn.symm) (fun z hz => by have := hkb z (hpu.mem_iff.mp hz); omega), upd_same, hpu.length_eq.trans hnn.symm⟩⟩
      rintro σ' H7 ⟨l, late, rfl, pk7, el7, hl7⟩
      have er7 := pk7.bt _ _ hrd er
      exact same_it (r := r) (l := l) (late := late) (ks := ks) (fun _ => rfl) rfl (fun _ => rfl) (fun _ => rfl) (fun _ => rfl) er7 el7 (hl7.trans hnn) hn fun D H8 nD s8 eD => ⟨l, D, rfl, pk7.newK2 nD s8 eD (filt_le _ _ hn)⟩
    rintro σ' H7 ⟨l, kp, rfl, pk7⟩
    -- way 5
    refine ⟨fun σ' H' => ∃ (x8 : Option V), σ' = SG d r p w1 l kp c wy x8 ∧ PkP K d a ns n H (k + 4) 9 9 600 l kp c H', ?_, ?_⟩
    · refine ⟨_, rfl, rfl, _, rfl, ?_⟩
      by_cases h0 : wy = 5
      case neg => exact ite_b (c := false) (decide_eq_false fun z => h0 (by injection z with z; omega)) (iteF (iteF ⟨_, rfl, pk7.mono (by omega)⟩))
      refine ite_b (c := true) (decide_eq_true (by rw [h0]; rfl)) (iteT ?_)
      obtain ⟨ys, DH, g1, g2, g3, g4⟩ := pk7.chs
      refine nn_rows (q := c) rfl g1 g2 fun H8 s8 => ⟨_, rfl, ?_⟩
      have pk8 := pk7.same s8
      by_cases hD : DH.map zI = []
      · exact ite_b (c := false) (by rw [decide_eq_true hD]; rfl) (iteF ⟨_, rfl, pk8.mono (by omega)⟩)
      refine ite_b (c := true) (by rw [decide_eq_false hD]; rfl) (iteT ?_)
      have hyl : ys.length = DH.length := by rw [Paired.length g2, List.length_map]
      have hdp : 0 < DH.length := List.length_pos_iff.mpr fun z => hD (by rw [z]; rfl)
      refine ⟨fun σ' H' => ∃ (sp : Nat), σ' = SG d r p w1 l kp c wy (some (.int (sp : Nat))) ∧ PkP K d a ns n H (k + 4) 9 9 600 l kp c H' ∧ But d H8 H' ∧ sp < DH.length, ?_, ?_⟩
      · obtain ⟨k8, hk8, dr8⟩ := pk8.dr
        exact ⟨_, rfl, _, rfl, c, ys, rfl, .inl (SqL.of (s8 _ _ g1)), d, a, ns, k8, DH.length, by rw [hyl]; rfl, dr8, by omega, hdp, fun H9 sp b9 dr9 hsp => ⟨sp, rfl, pk8.draw (kk' := k + 4) b9 dr9 (by omega), b9, hsp⟩⟩
      rintro σ' H9 ⟨sp, rfl, pk9, b9, hsp⟩
      have e9 := b9 _ _ pk8.cd (s8 _ _ g1)
      obtain ⟨k8, hk8, dr8⟩ := pk8.dr
      have r9 := (g2.same s8).but b9 dr8.l
      have hys : ys[sp]? = some (ys[sp]'(by omega)) := List.getElem?_eq_getElem (by omega)
      obtain ⟨hj, tt, ett, et⟩ := r9.get hys
      rw [List.length_map] at hj
      rw [List.getElem_map, zI_vi] at et
      rw [ett] at hys
      have hCl := g4 _ (List.getElem_mem hj)
      generalize DH[sp] = C at *
      refine ⟨_, rfl, _, rfl, c, ys, _, _, rfl, rfl, SqL.of e9, atI_nat hys, _, rfl, rfl, tt, vi C, rfl, SqT.of et, fun p5 G s5 e5 => ?_⟩
      have pk10 := pk9.same s5
      refine ⟨_, rfl, _, rfl, c, ys, _, sp, rfl, rfl, s5 _ _ e9, ixS2 (by omega), _, rfl, ?_⟩
      have e5' : G p5 = some (.tup ((zI C.reverse).map V.int)) := by
        rw [e5, zI_vi]
        unfold vi
        rw [List.map_reverse]
      exact pk10.inC (CH := DH.set sp C.reverse) (by rw [List.map_set]; exact rows_set sp (r9.same s5) e5') (by rw [List.length_set]; exact g3) (len_set g4 (Nat.le_refl _) (by rw [List.length_reverse]; exact hCl))
    rintro σ' H8 ⟨x8, rfl, pk8⟩
    -- way 6
    refine ⟨fun σ' H' => ∃ (c : Addr), σ' = SG d r p w1 l kp c wy x8 ∧ PkP K d a ns n H (k + 4) 10 9 600 l kp c H', ?_, ?_⟩
    · refine ⟨_, rfl, rfl, _, rfl, ?_⟩
      by_cases h0 : wy = 6
      case neg => exact ite_b (c := false) (decide_eq_false fun z => h0 (by injection z with z; omega)) (iteF ⟨c, rfl, pk8.mono (by omega)⟩)
      refine ite_b (c := true) (decide_eq_true (by rw [h0]; rfl)) (iteT ?_)
      obtain ⟨ys, DH, g1, g2, g3, g4⟩ := pk8.chs
      have hyl : ys.length = DH.length := by rw [Paired.length g2, List.length_map]
      refine ⟨_, rfl, by show 0 ≤ sizeLine; decide, fun e ne => ⟨by show 1 ≤ sizeLine; decide, fun u nu => ?_⟩⟩
      have s9 := (Same.up (o := .tup []) ne).trans (Same.up (o := .lst [V.ref e]) nu)
      have ee := (Same.up (o := .lst [V.ref e]) nu) _ _ (upd_same (H := H8) (a := e) (o := .tup []))
      refine ⟨c, u, ys, _, rfl, rfl, s9 _ _ g1, upd_same, by rw [sizeLine_eq]; show _ + 1 ≤ _; omega, fun v nv => ⟨v, rfl, ?_⟩⟩
      refine (pk8.same s9).newC (CH := DH ++ [[]]) nv ?_ (by rw [List.length_append]; show _ + 1 ≤ _; omega) fun C hC => ?_
      · rw [List.map_append]
        exact RowsAt.push ⟨e, rfl, ee⟩ (g2.same s9)
      · rcases List.mem_append.mp hC with hC | hC
        · exact g4 C hC
        · rw [List.mem_singleton.mp hC]
          exact Nat.zero_le _
    rintro σ' H9 ⟨c, rfl, pk9⟩
    -- way 7
    refine ⟨fun σ' H' => σ' = SG d r p w1 l kp c wy x8 ∧ PkP K d a ns n H (k + 4) 10 10 600 l kp c H', ?_, ?_⟩
    · refine ⟨_, rfl, rfl, _, rfl, ?_⟩
      by_cases h0 : wy = 7
      case neg => exact ite_b (c := false) (decide_eq_false fun z => h0 (by injection z with z; omega)) (iteF (iteF ⟨rfl, pk9.mono (by omega)⟩))
      refine ite_b (c := true) (decide_eq_true (by rw [h0]; rfl)) (iteT ?_)
      obtain ⟨ys, DH, g1, g2, g3, g4⟩ := pk9.chs
      refine nn_rows (q := c) rfl g1 g2 fun H10 s10 => ⟨_, rfl, ?_⟩
      have pk10 := pk9.same s10
      by_cases hD : DH.map zI = []
      · exact ite_b (c := false) (by rw [decide_eq_true hD]; rfl) (iteF ⟨rfl, pk10.mono (by omega)⟩)
      refine ite_b (c := true) (by rw [decide_eq_false hD]; rfl) (iteT ?_)
      have r10 := g2.same s10
      have e10 := s10 _ _ g1
      have hyl : ys.length = DH.length := by rw [Paired.length g2, List.length_map]
      have hdp : 0 < DH.length := List.length_pos_iff.mpr fun z => hD (by rw [z]; rfl)
      have hys : ys[0]? = some (ys[0]'(by omega)) := List.getElem?_eq_getElem (by omega)
      obtain ⟨hj, tt, ett, et⟩ := r10.get hys
      rw [List.length_map] at hj
      rw [List.getElem_map, zI_vi] at et
      rw [ett] at hys
      have hCl := g4 _ (List.getElem_mem hj)
      generalize DH[0] = C at *
      refine ⟨_, rfl, c, ys, _, _, rfl, rfl, SqL.of e10, atI_nat (j := 0) hys, _, rfl, r, _, rfl, .inl (SqL.of (pk10.bt _ _ hrd er)), by show 1 ≤ sizeLine; decide, fun u nu => ?_⟩
      have s11 := Same.up (o := .tup [V.int (((ks.map V.int).length : Nat) : Int)]) nu
      refine catTup (s11 _ _ et) upd_same (by rw [vi_len]; show _ + 1 ≤ _; omega) fun G t2 s12 e12 => ?_
      have s13 := s11.trans s12
      refine ⟨_, rfl, c, ys, _, 0, rfl, rfl, s13 _ _ e10, ix0 (by omega), rfl, ?_⟩
      have e5' : G t2 = some (.tup ((zI (C ++ [ks.length])).map V.int)) := by
        rw [e12, zI_vi, vi_app, List.length_map]
        rfl
      exact (pk10.same s13).inC (CH := DH.set 0 (C ++ [ks.length])) (by rw [List.map_set]; exact rows_set 0 (r10.same s13) e5') (by rw [List.length_set]; exact g3) (len_set g4 (by omega) (by rw [List.length_append]; show _ + 1 ≤ _; omega))
    rintro σ' H10 ⟨rfl, pk10⟩
    -- way 8
    refine ⟨fun σ' H' => ∃ (c : Addr), σ' = SG d r p w1 l kp c wy x8 ∧ PkP K d a ns n H (k + 4) 10 20 600 l kp c H', ?_, ?_⟩
    · refine ⟨_, rfl, rfl, _, rfl, ?_⟩
      by_cases h0 : wy = 8
      case neg => exact ite_b (c := false) (decide_eq_false fun z => h0 (by injection z with z; omega)) (iteF (iteF ⟨c, rfl, pk10.mono (by omega)⟩))
      refine ite_b (c := true) (decide_eq_true (by rw [h0]; rfl)) (iteT ?_)
      obtain ⟨ys, DH, g1, g2, g3, g4⟩ := pk10.chs
      have hyl : ys.length = DH.length := by rw [Paired.length g2, List.length_map]
      refine ⟨_, rfl, c, ys, rfl, .inl (SqL.of g1), _, _, rfl, rfl, _, rfl, ?_⟩
      by_cases h1 : 1 < ys.length
      case neg => exact ite_b (c := false) (decide_eq_false (by omega)) (iteF ⟨c, rfl, pk10.mono (by omega)⟩)
      refine ite_b (c := true) (decide_eq_true (by omega)) (iteT ?_)
      have hy0 : ys[0]? = some (ys[0]'(by omega)) := List.getElem?_eq_getElem (by omega)
      have hy1 : ys[1]? = some (ys[1]'(by omega)) := List.getElem?_eq_getElem (by omega)
      obtain ⟨hj0, t0, et0, e0⟩ := g2.get hy0
      obtain ⟨hj1, t1, et1, e1⟩ := g2.get hy1
      rw [List.length_map] at hj0 hj1
      rw [List.getElem_map, zI_vi] at e0 e1
      rw [et0] at hy0
      rw [et1] at hy1
      have hC0 := g4 _ (List.getElem_mem hj0)
      have hC1 := g4 _ (List.getElem_mem hj1)
      generalize DH[0] = C0 at *
      generalize DH[1] = C1 at *
      refine ⟨_, rfl, c, ys, _, _, rfl, rfl, SqL.of g1, atI_nat (j := 0) hy0, _, rfl, c, ys, _, _, rfl, rfl, SqL.of g1, atI_nat (j := 1) hy1, ?_⟩
      refine catTup e0 e1 (by rw [vi_len, vi_len]; omega) fun G t2 s12 e12 => ?_
      refine ⟨by show 1 ≤ sizeLine; decide, fun u nu => ?_⟩
      have s13 := s12.trans (Same.up (o := .lst [V.ref t2]) nu)
      have e13 := (Same.up (o := .lst [V.ref t2]) nu) _ _ e12
      have eu : upd G u (.lst [V.ref t2]) u = some (.lst [V.ref t2]) := upd_same
      generalize upd G u (.lst [V.ref t2]) = G2 at s13 e13 eu
      unfold tNoPart
      refine ⟨_, rfl, _, rfl, c, ys, rfl, SqL.of (s13 _ _ g1), fun v nv => ?_⟩
      have s14 := Same.up (o := .lst (cutV ys (some 2) none)) nv
      have s15 := s13.trans s14
      have hcut : cutV ys (some (2 : Int)) none = ys.drop 2 := cut_from ys 2
      refine ⟨u, v, _, _, rfl, rfl, s14 _ _ eu, upd_same, by rw [hcut, List.length_drop, sizeLine_eq]; show 1 + _ ≤ _; omega, fun z nz => ⟨z, rfl, ?_⟩⟩
      have e15 := s14 _ _ e13
      refine (pk10.same s15).newC (CH := (C0 ++ C1) :: DH.drop 2) nz ?_ (by rw [List.length_cons, List.length_drop]; omega) fun C hC => ?_
      · rw [hcut] at e15 s15 ⊢
        refine .cons ⟨t2, rfl, ?_⟩ ?_
        · rw [e15, zI_vi]
          unfold vi
          rw [List.map_append]
        · rw [List.map_drop]
          exact paired_drop 2 (g2.same s15)
      · rcases List.mem_cons.mp hC with rfl | hC
        · rw [List.length_append]
          omega
        · have := g4 C (List.mem_of_mem_drop hC)
          omega
    rintro σ' H11 ⟨c, rfl, pk11⟩
    -- way 9
    refine ⟨fun σ' H' => ∃ (kp : Addr), σ' = SG d r p w1 l kp c wy x8 ∧ PkP K d a ns n H (k + 4) 10 20 600 l kp c H', ?_, ?_⟩
    · refine ⟨_, rfl, rfl, _, rfl, ?_⟩
      by_cases h0 : wy = 9
      case neg => exact ite_b (c := false) (decide_eq_false fun z => h0 (by injection z with z; omega)) (iteF ⟨kp, rfl, pk11⟩)
      refine ite_b (c := true) (decide_eq_true (by rw [h0]; rfl)) (iteT ?_)
      obtain ⟨X2, f1, f2⟩ := pk11.kept
      refine ⟨_, rfl, kp, vi X2, rfl, SqL.of f1, fun p5 np5 => ⟨p5, rfl, ?_⟩⟩
      rw [show (vi X2).reverse = vi X2.reverse by unfold vi; rw [List.map_reverse]]
      exact pk11.newK np5 (by rw [List.length_reverse]; exact f2)
    rintro σ' H12 ⟨kp, rfl, pk12⟩
    -- way 10
    refine ⟨fun σ' H' => ∃ (c : Addr), σ' = SG d r p w1 l kp c wy x8 ∧ PkP K d a ns n H (k + 4) 10 20 600 l kp c H', ?_, ?_⟩
    · refine ⟨_, rfl, rfl, _, rfl, ?_⟩
      by_cases h0 : wy = 10
      case neg => exact ite_b (c := false) (decide_eq_false fun z => h0 (by injection z with z; omega)) (iteF ⟨c, rfl, pk12⟩)
      refine ite_b (c := true) (decide_eq_true (by rw [h0]; rfl)) (iteT ?_)
      obtain ⟨ys, DH, g1, g2, g3, g4⟩ := pk12.chs
      have hyl : ys.length = DH.length := by rw [Paired.length g2, List.length_map]
      refine ⟨_, rfl, c, rfl, ⟨_, SqL.of g1⟩, fun D nD => ?_⟩
      refine lc_it (walk_list (xs := ys)) (fun j H' => AccR H12 D (((DH.take j).map dropC).map zI) H') (AccR.start nD) (fun j H' _ ac => SqL.of (ac.s _ _ g1)) ?_ ?_
      · rintro j y Ho H13 hj ac ⟨rfl, hy⟩
        obtain ⟨hj2, t, rfl, et⟩ := (g2.same ac.s).get hy
        rw [List.length_map] at hj2
        rw [List.getElem_map, zI_vi] at et
        rw [List.take_succ_eq_append_getElem hj2, List.map_append, List.map_append]
        have hl : (((DH.take j).map dropC).map zI).length < sizeLine := by rw [List.length_map, List.length_map, List.length_take, sizeLine_eq]; omega
        generalize DH[j] = C at *
        refine ⟨rfl, iteT (B := AccR H12 D (((DH.take j).map dropC).map zI ++ ([C].map dropC).map zI) H13) ?_⟩
        refine ⟨_, rfl, t, _, rfl, .inr (SqT.of et), _, _, rfl, rfl, _, rfl, ?_⟩
        by_cases h1 : 1 < C.length
        · refine ite_b (c := true) (decide_eq_true (by rw [vi_len]; omega)) (iteT ?_)
          refine ⟨_, rfl, ?_⟩
          unfold tNoPart
          refine ⟨_, rfl, _, rfl, ?_⟩
          show rSlA K (V.ref t) none (some (-1 : Int)) _ _
          refine slTup et fun H14 u s14 eu => ?_
          refine (ac.same s14).push (x := .ref u) (l := zI (dropC C)) ⟨u, rfl, ?_⟩ hl
          rw [eu, cut_back, zI_vi]
          unfold dropC
          rw [if_pos h1, vi_len]
          unfold vi
          rw [← List.map_take, ← List.dropLast_eq_take]
        · refine ite_b (c := false) (decide_eq_false (by rw [vi_len]; omega)) (iteF ?_)
          refine ⟨_, rfl, ac.push (x := .ref t) (l := zI (dropC C)) ⟨t, rfl, ?_⟩ hl⟩
          rw [zI_vi]
          unfold dropC
          rw [if_neg h1]
          exact et
      · rintro H13 ac
        rw [hyl, List.take_length] at ac
        obtain ⟨zs, ez, rz⟩ := ac.a
        refine ⟨D, rfl, pk12.newC2 nD ac.s ez rz (by rw [List.length_map]; exact g3) fun C hC => ?_⟩
        obtain ⟨C0, hC0, rfl⟩ := List.mem_map.mp hC
        exact Nat.le_trans (dropC_len C0) (g4 C0 hC0)
    rintro σ' H13 ⟨c, rfl, pk13⟩
    -- way 11
    refine ⟨fun σ' H' => σ' = SG d r p w1 l kp c wy x8 ∧ PkP K d a ns n H (k + 4) 10 20 600 l kp c H', ?_, ?_⟩
    · refine ⟨_, rfl, rfl, _, rfl, ?_⟩
      by_cases h0 : wy = 11
      case neg => exact ite_b (c := false) (decide_eq_false fun z => h0 (by injection z with z; omega)) (iteF (iteF ⟨rfl, pk13⟩))
      refine ite_b (c := true) (decide_eq_true (by rw [h0]; rfl)) (iteT ?_)
      obtain ⟨ys, DH, g1, g2, g3, g4⟩ := pk13.chs
      refine nn_rows (q := c) rfl g1 g2 fun H14 s14 => ⟨_, rfl, ?_⟩
      have pk14 := pk13.same s14
      by_cases hD : DH.map zI = []
      · exact ite_b (c := false) (by rw [decide_eq_true hD]; rfl) (iteF ⟨rfl, pk14⟩)
      refine ite_b (c := true) (by rw [decide_eq_false hD]; rfl) (iteT ?_)
      have r14 := g2.same s14
      have e14 := s14 _ _ g1
      have hyl : ys.length = DH.length := by rw [Paired.length g2, List.length_map]
      have hdp : 0 < DH.length := List.length_pos_iff.mpr fun z => hD (by rw [z]; rfl)
      have hys : ys[ys.length - 1]? = some (ys[ys.length - 1]'(by omega)) := List.getElem?_eq_getElem (by omega)
      obtain ⟨hj, tt, ett, et⟩ := r14.get hys
      rw [List.length_map] at hj
      rw [List.getElem_map] at et
      have hal := at_last (xs := ys) (by omega)
      rw [ett] at hal
      have hCl := g4 _ (List.getElem_mem hj)
      generalize DH[ys.length - 1] = C at *
      refine ⟨_, rfl, _, rfl, c, ys, _, _, rfl, rfl, SqL.of e14, hal, _, rfl, c, ys, _, 0, rfl, rfl, e14, ix0 (by omega), rfl, ?_⟩
      exact pk14.inC (CH := DH.set 0 C) (by rw [List.map_set]; exact rows_set 0 r14 et) (by rw [List.length_set]; exact g3) (len_set g4 (Nat.le_refl _) hCl)
    rintro σ' H14 ⟨rfl, pk14⟩
    -- way 12
    refine ⟨fun σ' H' => ∃ (c : Addr), σ' = SG d r p w1 l kp c wy x8 ∧ PkP K d a ns n H (k + 4) 10 20 600 l kp c H', ?_, ?_⟩
    · refine ⟨_, rfl, rfl, _, rfl, ?_⟩
      by_cases h0 : wy = 12
      case neg => exact ite_b (c := false) (decide_eq_false fun z => h0 (by injection z with z; omega)) (iteF ⟨c, rfl, pk14⟩)
      refine ite_b (c := true) (decide_eq_true (by rw [h0]; rfl)) (iteT ?_)
      obtain ⟨X2, f1, f2⟩ := pk14.kept
      exact ⟨_, rfl, _, rfl, _, rfl, kp, vi X2, rfl, .inl (SqL.of f1), r, w1, (vi X2).length, ks, rfl, hw, pk14.bt _ _ hrd er, hn, fun H15 q5 xs5 CH5 s5 n5 e5 r5 l5 m5 => ⟨q5, rfl, pk14.newC2 n5 s5 e5 r5 (by omega) fun C hC => by have := m5 C hC; omega⟩⟩
    rintro σ' H15 ⟨c, rfl, pk15⟩
    obtain ⟨late, e1, e2, e3⟩ := pk15.late
    obtain ⟨X2, f1, f2⟩ := pk15.kept
    obtain ⟨ys, DH, g1, g2, g3, g4⟩ := pk15.chs
    obtain ⟨k15, hk15, dr15⟩ := pk15.dr
    refine ⟨_, rfl, ?_⟩
    unfold tNil
    refine tupQ (.inl e1) fun H16 t0 s16 e16 => ?_
    refine ⟨_, rfl, ?_⟩
    refine tupQ (.inl (s16 _ _ f1)) fun H17 t1 s17 e17 => ?_
    refine ⟨_, rfl, by show 3 ≤ sizeLine; decide, fun t nt => ?_⟩
    have s18 := Same.up (o := .tup [V.ref t0, V.ref t1, V.ref c]) nt
    have sA := s16.trans (s17.trans s18)
    exact q _ t late X2 DH k15 (pk15.bt.trans (But.of sA)) (dr15.same sA) hk15 ⟨t0, t1, c, ys, upd_same, (s17.trans s18) _ _ e16, s18 _ _ e17, sA _ _ g1, g2.same sA⟩ (e2.trans hnn) (fun z hz => by have := e3 z hz; omega) f2 (by omega) fun C hC => by have := g4 C hC; omega
theorem b_prt (T : Tx K mg A) : L2.Binds K A.d__law_parts ["draw", "row", "found", "wide"] [] := T.F__law_parts.binds fun _ _ _ _ _ _ us hl => match us, hl with | [_, _, _, _], _ => rfl

end
end Tw

set_option Elab.async false
set_option linter.all false
set_option maxRecDepth 100000
set_option maxHeartbeats 2000000
namespace Tw
open PySem PySem.Spec PyProof.Rows L2
section
variable {P : Program} {w : World} {K : PySem.W.Frag} {mg : Str → Option Value} {base : Heap} {A : Ad}
open LamX (ExtN Tabs TabS)
/-- the chains stand for the places from j on, each once, and fall -/
structure ChOk (n w : Nat) (ks : List Int) (j : Nat) (CH : List (List Nat)) : Prop where
  pm : CH.flatten.Perm ((List.range n).filter fun x => decide (j ≤ x))
  ne : ∀ C ∈ CH, C ≠ []
  ch : ∀ C ∈ CH, C.Pairwise (Fal w ks)
/-- no two of them fall -/
def Stay (w : Nat) (ks : List Int) (X : List Nat) : Prop := ∀ x ∈ X, ∀ y ∈ X, ¬ Fal w ks x y
structure IsMx (n w : Nat) (ks : List Int) (c : Nat) : Prop where
  ex : ∃ X : List Nat, X.Nodup ∧ (∀ x ∈ X, x < n) ∧ Stay w ks X ∧ X.length = c
  le : ∀ X : List Nat, X.Nodup → (∀ x ∈ X, x < n) → Stay w ks X → X.length ≤ c
structure Fd (w : Nat) (ks : List Int) (X : List Nat) (m : Int) (CH : List (List Nat)) : Prop where
  mx : IsMx ks.length w ks CH.length
  ok : ChOk ks.length w ks 0 CH
  asc : X.Pairwise (· < ·)
  lt : ∀ x ∈ X, x < ks.length
  st : Stay w ks X
  len : X.length = CH.length
  low : ∀ i, i < ks.length → m ≤ keyAt ks i
  mem : 1 ≤ ks.length → m ∈ ks
abbrev hdC (C : List Nat) : Nat := C.headD 0
def lesB (w : Nat) (ks : List Int) (p : Nat) (C : List Nat) : Bool := decide (p ∈ wayL w (hdC C)) && decide (keyAt ks (hdC C) < keyAt ks p)
def lesL (w : Nat) (ks : List Int) (p : Nat) (CH : List (List Nat)) : List (List Nat) := CH.filter (lesB w ks p)
def StepR (w : Nat) (ks : List Int) (p : Nat) (CH CH' : List (List Nat)) : Prop :=
  (lesL w ks p CH = [] ∧ CH' = CH ++ [[p]]) ∨ ∃ L ∈ lesL w ks p CH, (∀ D ∈ lesL w ks p CH, keyAt ks (hdC D) ≤ keyAt ks (hdC L)) ∧ CH' = CH.erase L ++ [p :: L]
def FcR (n w : Nat) (ks : List Int) : Nat → List (List Nat) → Prop
  | 0, CH => CH = []
  | i + 1, CH' => ∃ CH, FcR n w ks i CH ∧ StepR w ks (n - 1 - i) CH CH'
theorem lesL_mem {w : Nat} {ks : List Int} {p : Nat} {CH : List (List Nat)} {C : List Nat} : C ∈ lesL w ks p CH ↔ C ∈ CH ∧ p ∈ wayL w (hdC C) ∧ keyAt ks (hdC C) < keyAt ks p := by
  unfold lesL lesB
  rw [List.mem_filter, Bool.and_eq_true, decide_eq_true_eq, decide_eq_true_eq]
theorem ChOk.mem {n w : Nat} {ks : List Int} {j : Nat} {CH : List (List Nat)} (h : ChOk n w ks j CH) {C : List Nat} (hC : C ∈ CH) {x : Nat} (hx : x ∈ C) : j ≤ x ∧ x < n := by
  have := h.pm.mem_iff.mp (List.mem_flatten.mpr ⟨C, hC, hx⟩)
  rw [List.mem_filter, List.mem_range, decide_eq_true_eq] at this
  exact ⟨this.2, this.1⟩
theorem hd_mem {C : List Nat} (h : C ≠ []) : hdC C ∈ C := by
  cases C with
  | nil => exact absurd rfl h
  | cons a l => exact List.mem_cons_self
theorem rest_eq {n p : Nat} (hp : p < n) : ((List.range n).filter fun x => decide (p ≤ x)).Perm (p :: (List.range n).filter fun x => decide (p + 1 ≤ x)) := by
  refine (List.perm_ext_iff_of_nodup (List.Pairwise.filter _ List.nodup_range) (List.nodup_cons.mpr ⟨fun h => ?_, List.Pairwise.filter _ List.nodup_range⟩)).mpr fun x => ?_
  · rw [List.mem_filter, decide_eq_true_eq] at h
    omega
  · rw [List.mem_filter, List.mem_cons, List.mem_filter, List.mem_range, decide_eq_true_eq, decide_eq_true_eq]
    omega
theorem step_ok {n w : Nat} {ks : List Int} {p : Nat} {CH CH' : List (List Nat)} (hw : 1 ≤ w ∧ w ≤ 4) (hn : n ≤ 12) (hp : p < n) (h : ChOk n w ks (p + 1) CH) (s : StepR w ks p CH CH') : ChOk n w ks p CH' := by
  rcases s with ⟨_, rfl⟩ | ⟨L, hL, hm, rfl⟩
  · refine ⟨?_, fun C hC => ?_, fun C hC => ?_⟩
    · rw [List.flatten_append]
      refine List.Perm.trans ?_ (rest_eq hp).symm
      refine List.perm_append_comm.trans ?_
      exact List.Perm.cons p h.pm
    · rcases List.mem_append.mp hC with hC | hC
      · exact h.ne C hC
      · rw [List.mem_singleton.mp hC]
        exact List.cons_ne_nil _ _
    · rcases List.mem_append.mp hC with hC | hC
      · exact h.ch C hC
      · rw [List.mem_singleton.mp hC]
        exact List.pairwise_singleton _ _
  · obtain ⟨l1, l2, l3⟩ := lesL_mem.mp hL
    have hLn := h.ne L l1
    refine ⟨?_, fun C hC => ?_, fun C hC => ?_⟩
    · rw [List.flatten_append]
      refine List.Perm.trans ?_ (rest_eq hp).symm
      have h1 : (CH.erase L).flatten.Perm (CH.erase L).flatten := List.Perm.refl _
      have h2 : CH.flatten.Perm (L ++ (CH.erase L).flatten) := (List.perm_cons_erase l1).flatten
      have h3 : ((CH.erase L).flatten ++ [p :: L].flatten).Perm (p :: (L ++ (CH.erase L).flatten)) := by
        rw [show [p :: L].flatten = p :: L by simp]
        exact List.perm_append_comm
      exact h3.trans (List.Perm.cons p (h2.symm.trans h.pm))
    · rcases List.mem_append.mp hC with hC | hC
      · exact h.ne C (List.mem_of_mem_erase hC)
      · rw [List.mem_singleton.mp hC]
        exact List.cons_ne_nil _ _
    · rcases List.mem_append.mp hC with hC | hC
      · exact h.ch C (List.mem_of_mem_erase hC)
      · rw [List.mem_singleton.mp hC]
        have hhd := h.mem l1 (hd_mem hLn)
        have hfh : Fal w ks p (hdC L) := ⟨l2, by omega, l3⟩
        refine List.pairwise_cons.mpr ⟨fun y hy => ?_, h.ch L l1⟩
        have hpw := h.ch L l1
        cases L with
        | nil => exact absurd rfl hLn
        | cons a l =>
          rcases List.mem_cons.mp hy with rfl | hy
          · exact hfh
          · have hyn := h.mem l1 (List.mem_cons_of_mem _ hy)
            exact Fal.trans hw (by omega) hfh ((List.pairwise_cons.mp hpw).1 y hy)
theorem fc_ok {n w : Nat} {ks : List Int} (hw : 1 ≤ w ∧ w ≤ 4) (hn : n ≤ 12) : ∀ (i : Nat) (CH : List (List Nat)), i ≤ n → FcR n w ks i CH → ChOk n w ks (n - i) CH
  | 0, CH, _, h => by
    have h : CH = [] := h
    subst h
    refine ⟨?_, fun C hC => (nomatch hC), fun C hC => (nomatch hC)⟩
    rw [List.filter_eq_nil_iff.mpr fun x hx => ?_]
    · exact List.Perm.refl _
    · rw [List.mem_range] at hx
      rw [decide_eq_true_eq]
      omega
  | i + 1, CH', hi, ⟨CH, h, s⟩ => by
    have ih := fc_ok hw hn i CH (by omega) h
    have e : n - i = (n - 1 - i) + 1 := by omega
    rw [e] at ih
    rw [show n - (i + 1) = n - 1 - i by omega]
    exact step_ok hw hn (by omega) ih s
def grK (w : Nat) (ks : List Int) (i : Nat) : List Nat := (wayL w i).filter fun a => decide (keyAt ks a > keyAt ks i)
def okK (w : Nat) (ks : List Int) (i : Nat) (X : List Nat) : Bool := (grK w ks i).all fun a => !decide (a ∈ X)
def stkL (w : Nat) (ks : List Int) : Nat → List (List Nat)
  | 0 => [[]]
  | i + 1 => stkL w ks i ++ ((stkL w ks i).filter (okK w ks i)).map fun X => X ++ [i]
theorem okK_iff {w : Nat} {ks : List Int} {i : Nat} {X : List Nat} (hX : ∀ x ∈ X, x < i) : okK w ks i X = true ↔ ∀ x ∈ X, ¬ Fal w ks x i := by
  unfold okK grK
  rw [List.all_eq_true]
  refine ⟨fun h x hx f => ?_, fun h a ha => ?_⟩
  · have := h x (List.mem_filter.mpr ⟨f.1, decide_eq_true f.2.2⟩)
    rw [decide_eq_true hx] at this
    cases this
  · obtain ⟨a1, a2⟩ := List.mem_filter.mp ha
    rw [Bool.not_eq_true', decide_eq_false_iff_not]
    exact fun hx => h a hx ⟨a1, by have := hX a hx; omega, of_decide_eq_true a2⟩
theorem stk_ok {w : Nat} {ks : List Int} (hw : 1 ≤ w ∧ w ≤ 4) : ∀ i, i ≤ 12 → ∀ X ∈ stkL w ks i, X.Pairwise (· < ·) ∧ (∀ x ∈ X, x < i) ∧ Stay w ks X
  | 0, _, X, h => by
    rw [List.mem_singleton.mp h]
    exact ⟨List.Pairwise.nil, fun x hx => (nomatch hx), fun x hx => (nomatch hx)⟩
  | i + 1, hi, X, h => by
    unfold stkL at h
    rcases List.mem_append.mp h with h | h
    · obtain ⟨a, b, c⟩ := stk_ok hw i (by omega) X h
      exact ⟨a, fun x hx => by have := b x hx; omega, c⟩
    · obtain ⟨Y, hY, rfl⟩ := List.mem_map.mp h
      obtain ⟨hY, ho⟩ := List.mem_filter.mp hY
      obtain ⟨a, b, c⟩ := stk_ok hw i (by omega) Y hY
      have ho := (okK_iff b).mp ho
      refine ⟨List.pairwise_append.mpr ⟨a, List.pairwise_singleton _ _, fun x hx y hy => by rw [List.mem_singleton.mp hy]; exact b x hx⟩, fun x hx => ?_, fun x hx y hy f => ?_⟩
      · rcases List.mem_append.mp hx with hx | hx
        · have := b x hx
          omega
        · rw [List.mem_singleton] at hx
          omega
      · rcases List.mem_append.mp hx with hx | hx
        · rcases List.mem_append.mp hy with hy | hy
          · exact c x hx y hy f
          · rw [List.mem_singleton.mp hy] at f
            exact ho x hx f
        · rw [List.mem_singleton.mp hx] at f
          rcases List.mem_append.mp hy with hy | hy
          · have h1 := b y hy
            have := up_le w (by omega) y (by omega) hw.1 i f.1
            omega
          · exact f.2.1 (List.mem_singleton.mp hy).symm
theorem stk_all {w : Nat} {ks : List Int} : ∀ i (X : List Nat), X.Nodup → (∀ x ∈ X, x < i) → Stay w ks X → ∃ Y ∈ stkL w ks i, Y.Perm X
  | 0, X, _, h, _ => by
    cases X with
    | nil => exact ⟨[], List.mem_singleton.mpr rfl, List.Perm.refl _⟩
    | cons a l => exact absurd (h a List.mem_cons_self) (by omega)
  | i + 1, X, hd, h, hs => by
    by_cases hi : i ∈ X
    · have hm : ∀ x ∈ X.erase i, x ∈ X ∧ x ≠ i := fun x hx => ⟨List.mem_of_mem_erase hx, fun e => by rw [e] at hx; exact (List.Nodup.not_mem_erase hd) hx⟩
      obtain ⟨Y, hY, hp⟩ := stk_all i (X.erase i) (hd.erase i) (fun x hx => by have h1 := h x (hm x hx).1; have h2 := (hm x hx).2; omega) fun x hx y hy => hs x (hm x hx).1 y (hm y hy).1
      have hYi : ∀ x ∈ Y, x < i := fun x hx => by
        have h1 := h x (hm x (hp.mem_iff.mp hx)).1
        have h2 := (hm x (hp.mem_iff.mp hx)).2
        omega
      refine ⟨Y ++ [i], ?_, ?_⟩
      · unfold stkL
        refine List.mem_append_right _ (List.mem_map.mpr ⟨Y, List.mem_filter.mpr ⟨hY, (okK_iff hYi).mpr fun x hx f => hs x (hm x (hp.mem_iff.mp hx)).1 i hi f⟩, rfl⟩)
      · exact List.perm_append_comm.trans ((List.Perm.cons i hp).trans (List.perm_cons_erase hi).symm)
    · obtain ⟨Y, hY, hp⟩ := stk_all i X hd (fun x hx => by have h1 := h x hx; have : x ≠ i := fun e => hi (e ▸ hx); omega) hs
      exact ⟨Y, by unfold stkL; exact List.mem_append_left _ hY, hp⟩
/-- no more places stay than there are chains -/
theorem stay_le {n w : Nat} {ks : List Int} {CH : List (List Nat)} (h : ChOk n w ks 0 CH) {X : List Nat} (hd : X.Nodup) (hX : ∀ x ∈ X, x < n) (hs : Stay w ks X) : X.length ≤ CH.length := by
  have h1 : X.length = (CH.flatten.filter fun x => decide (x ∈ X)).length := by
    refine List.Perm.length_eq ((List.perm_ext_iff_of_nodup hd (List.Pairwise.filter _ (h.pm.nodup_iff.mpr (List.Pairwise.filter _ List.nodup_range)))).mpr fun x => ?_)
    rw [List.mem_filter, decide_eq_true_eq, h.pm.mem_iff, List.mem_filter, List.mem_range, decide_eq_true_eq]
    exact ⟨fun hx => ⟨⟨hX x hx, Nat.zero_le _⟩, hx⟩, fun q => q.2⟩
  have h2 : ∀ L : List (List Nat), (∀ C ∈ L, C.Pairwise (Fal w ks)) → (L.flatten.filter fun x => decide (x ∈ X)).length ≤ L.length := fun L => by
    induction L with
    | nil => intro _; exact Nat.le_refl _
    | cons C L ih =>
      intro hc
      rw [List.flatten_cons, List.filter_append, List.length_append, List.length_cons]
      have i1 := ih fun D hD => hc D (List.mem_cons_of_mem _ hD)
      have i2 : (C.filter fun x => decide (x ∈ X)).length ≤ 1 := by
        have hp := List.Pairwise.filter (fun x => decide (x ∈ X)) (hc C List.mem_cons_self)
        have hm : ∀ x ∈ C.filter (fun x => decide (x ∈ X)), x ∈ X := fun x hx => of_decide_eq_true (List.mem_filter.mp hx).2
        generalize (C.filter fun x => decide (x ∈ X)) = D at hp hm
        match D, hp, hm with
        | [], _, _ => exact Nat.zero_le _
        | [a], _, _ => exact Nat.le_refl _
        | a :: b :: D, hp, hm => exact absurd ((List.pairwise_cons.mp hp).1 b List.mem_cons_self) (hs a (hm a List.mem_cons_self) b (hm b (List.mem_cons_of_mem _ List.mem_cons_self)))
      omega
  rw [h1]
  exact h2 CH h.ch
theorem up_chain0 : ∀ w, w < 5 → ∀ y, y < 13 → 1 ≤ w → ((wayL w y).all fun x => (wayL w y).all fun p => decide (p ≤ x → p ∈ wayL w x)) = true := by decide +kernel
theorem up_chain (w : Nat) (h5 : w < 5) (y : Nat) (hy : y < 13) (h1 : 1 ≤ w) (x : Nat) (hx : x ∈ wayL w y) (p : Nat) (hp : p ∈ wayL w y) (hl : p ≤ x) : p ∈ wayL w x :=
  of_decide_eq_true (List.all_eq_true.mp (List.all_eq_true.mp (up_chain0 w h5 y hy h1) x hx) p hp) hl
def cntB (ks : List Int) (θ : Nat → Int) (C : List Nat) : Bool := decide (θ (hdC C) ≤ keyAt ks (hdC C))
theorem cnt_step {w : Nat} {ks : List Int} {p : Nat} {CH CH' : List (List Nat)} {θ : Nat → Int} (s : StepR w ks p CH CH') (hθ : ∀ C ∈ CH, p ∈ wayL w (hdC C) → θ (hdC C) = θ p) :
    CH'.countP (cntB ks θ) = CH.countP (cntB ks θ) + if θ p ≤ keyAt ks p ∧ ∀ C ∈ lesL w ks p CH, keyAt ks (hdC C) < θ p then 1 else 0 := by
  have one : ∀ L : List Nat, cntB ks θ (p :: L) = decide (θ p ≤ keyAt ks p) := fun L => rfl
  rcases s with ⟨h0, rfl⟩ | ⟨L, hL, hm, rfl⟩
  · rw [List.countP_append, List.countP_singleton, one, h0]
    by_cases h : θ p ≤ keyAt ks p
    · rw [if_pos (decide_eq_true h), if_pos ⟨h, fun C hC => (nomatch hC)⟩]
    · rw [if_neg (by rw [decide_eq_true_eq]; exact h), if_neg fun z => h z.1]
  · obtain ⟨l1, l2, l3⟩ := lesL_mem.mp hL
    have ht := hθ L l1 l2
    have hcL : cntB ks θ L = decide (θ p ≤ keyAt ks (hdC L)) := by
      unfold cntB
      rw [ht]
    have hce : CH.countP (cntB ks θ) = (CH.erase L).countP (cntB ks θ) + if cntB ks θ L = true then 1 else 0 := by rw [(List.perm_cons_erase l1).countP_eq, List.countP_cons]
    rw [List.countP_append, List.countP_singleton, one, hce]
    by_cases h : θ p ≤ keyAt ks p
    · rw [if_pos (decide_eq_true h)]
      by_cases h2 : θ p ≤ keyAt ks (hdC L)
      · have h3 : cntB ks θ L = true := by rw [hcL]; exact decide_eq_true h2
        rw [if_pos h3, if_neg (fun z => by have := z.2 L hL; omega)]
      · have h3 : ¬ cntB ks θ L = true := fun z => by
          rw [hcL, decide_eq_true_eq] at z
          exact h2 z
        rw [if_neg h3, if_pos ⟨h, fun C hC => by have := hm C hC; omega⟩]
    · have h3 : ¬ cntB ks θ L = true := fun z => by
        rw [hcL, decide_eq_true_eq] at z
        omega
      rw [if_neg (by rw [decide_eq_true_eq]; exact h), if_neg h3, if_neg fun z => h z.1]
/-- as many places as chains stay -/
theorem stay_ex {n w : Nat} {ks : List Int} (hw : 1 ≤ w ∧ w ≤ 4) (hn : n ≤ 12) : ∀ (i : Nat) (CH : List (List Nat)), i ≤ n → FcR n w ks i CH → ∀ θ : Nat → Int, (∀ y x, y < n → n - i ≤ x → x ∈ wayL w y → θ x = θ y) →
    ∃ X : List Nat, X.Nodup ∧ (∀ x ∈ X, n - i ≤ x ∧ x < n ∧ θ x ≤ keyAt ks x) ∧ Stay w ks X ∧ X.length = CH.countP (cntB ks θ)
  | 0, CH, _, h, θ, _ => by
    have h : CH = [] := h
    subst h
    exact ⟨[], List.nodup_nil, fun x hx => (nomatch hx), fun x hx => (nomatch hx), rfl⟩
  | i + 1, CH', hi, ⟨CH, h, s⟩, θ, hθ => by
    have hp : n - (i + 1) = n - 1 - i := by omega
    have hj : n - i = (n - 1 - i) + 1 := by omega
    have ok := fc_ok hw hn i CH (by omega) h
    rw [hp] at hθ ⊢
    rw [hj] at ok
    generalize hpp : n - 1 - i = p at *
    have hpn : p < n := by omega
    have hsame : ∀ C ∈ CH, p ∈ wayL w (hdC C) → θ (hdC C) = θ p := fun C hC hu => (hθ (hdC C) p (ok.mem hC (hd_mem (ok.ne C hC))).2 (Nat.le_refl _) hu).symm
    rw [cnt_step s hsame]
    by_cases hB : θ p ≤ keyAt ks p ∧ ∀ C ∈ lesL w ks p CH, keyAt ks (hdC C) < θ p
    · -- the place stays too
      obtain ⟨X, x1, x2, x3, x4⟩ := stay_ex hw hn i CH (by omega) h (fun x => if p ∈ wayL w x then keyAt ks p else θ x) (fun y x hy hx hu => by
        rw [hj] at hx
        have e : p ∈ wayL w x ↔ p ∈ wayL w y := ⟨fun hz => up_trans w (by omega) y (by omega) hw.1 x hu p hz, fun hz => up_chain w (by omega) y (by omega) hw.1 x hu p hz (by omega)⟩
        show (if p ∈ wayL w x then _ else _) = if p ∈ wayL w y then _ else _
        by_cases hz : p ∈ wayL w x
        · rw [if_pos hz, if_pos (e.mp hz)]
        · rw [if_neg hz, if_neg (fun q => hz (e.mpr q))]
          exact hθ y x hy (by omega) hu)
      rw [hj] at x2
      refine ⟨p :: X, List.nodup_cons.mpr ⟨fun hz => by have := (x2 p hz).1; omega, x1⟩, fun x hx => ?_, fun x hx y hy f => ?_, ?_⟩
      · rcases List.mem_cons.mp hx with rfl | hx
        · exact ⟨Nat.le_refl _, hpn, hB.1⟩
        · obtain ⟨a, b, c⟩ := x2 x hx
          refine ⟨by omega, b, ?_⟩
          by_cases hz : p ∈ wayL w x
          · rw [← hθ x p b (Nat.le_refl _) hz]
            have c : (if p ∈ wayL w x then keyAt ks p else θ x) ≤ keyAt ks x := c
            rw [if_pos hz] at c
            have := hB.1
            omega
          · have c : (if p ∈ wayL w x then keyAt ks p else θ x) ≤ keyAt ks x := c
            rw [if_neg hz] at c
            exact c
      · rcases List.mem_cons.mp hx with h1 | hx'
        · rcases List.mem_cons.mp hy with h2 | hy'
          · exact f.2.1 (h1.trans h2.symm)
          · have c : (if p ∈ wayL w y then keyAt ks p else θ y) ≤ keyAt ks y := (x2 y hy').2.2
            rw [h1] at f
            rw [if_pos f.1] at c
            have := f.2.2
            omega
        · rcases List.mem_cons.mp hy with h2 | hy'
          · have a := (x2 x hx').1
            rw [h2] at f
            have := up_le w (by omega) p (by omega) hw.1 x f.1
            omega
          · exact x3 x hx' y hy' f
      · rw [List.length_cons, x4, if_pos hB]
        congr 1
        refine List.countP_congr fun C hC => ?_
        unfold cntB
        rw [decide_eq_true_eq, decide_eq_true_eq]
        show (if p ∈ wayL w (hdC C) then keyAt ks p else θ (hdC C)) ≤ _ ↔ _
        by_cases hz : p ∈ wayL w (hdC C)
        · rw [if_pos hz, hsame C hC hz]
          refine ⟨fun q => by have := hB.1; omega, fun q => ?_⟩
          by_cases hl : keyAt ks (hdC C) < keyAt ks p
          · have := hB.2 C (lesL_mem.mpr ⟨hC, hz, hl⟩)
            omega
          · omega
        · rw [if_neg hz]
    · obtain ⟨X, x1, x2, x3, x4⟩ := stay_ex hw hn i CH (by omega) h θ (fun y x hy hx hu => hθ y x hy (by omega) hu)
      refine ⟨X, x1, fun x hx => ?_, x3, ?_⟩
      · obtain ⟨a, b, c⟩ := x2 x hx
        exact ⟨by omega, b, c⟩
      · rw [x4, if_neg hB, Nat.add_zero]
/-- the greatest sets that stay are as large as there are chains -/
theorem stay_most {n w : Nat} {ks : List Int} (hw : 1 ≤ w ∧ w ≤ 4) (hn : n ≤ 12) {CH : List (List Nat)} (h : FcR n w ks n CH) {B : Int} (hB : ∀ x, x < n → B ≤ keyAt ks x) :
    ChOk n w ks 0 CH ∧ ∃ X : List Nat, X.Nodup ∧ (∀ x ∈ X, x < n) ∧ Stay w ks X ∧ X.length = CH.length := by
  have ok := fc_ok hw hn n CH (Nat.le_refl _) h
  rw [Nat.sub_self] at ok
  obtain ⟨X, a, b, c, d⟩ := stay_ex hw hn n CH (Nat.le_refl _) h (fun _ => B) (fun _ _ _ _ _ => rfl)
  refine ⟨ok, X, a, fun x hx => (b x hx).2.1, c, ?_⟩
  rw [d]
  refine List.countP_eq_length.mpr fun C hC => ?_
  exact decide_eq_true (hB _ (ok.mem hC (hd_mem (ok.ne C hC))).2)
theorem low_ex (f : Nat → Int) : ∀ n, ∃ B : Int, ∀ x, x < n → B ≤ f x
  | 0 => ⟨0, fun x h => by omega⟩
  | n + 1 => by
    obtain ⟨B, h⟩ := low_ex f n
    refine ⟨min B (f n), fun x hx => ?_⟩
    by_cases e : x = n
    · rw [e]
      omega
    · have := h x (by omega)
      omega
theorem fc_mx {n w : Nat} {ks : List Int} (hw : 1 ≤ w ∧ w ≤ 4) (hn : n ≤ 12) {CH : List (List Nat)} (h : FcR n w ks n CH) : IsMx n w ks CH.length := by
  obtain ⟨B, hB⟩ := low_ex (keyAt ks) n
  obtain ⟨ok, X, a, b, c, d⟩ := stay_most hw hn h hB
  exact ⟨⟨X, a, b, c, d⟩, fun Y h1 h2 h3 => stay_le ok h1 h2 h3⟩
theorem Fd.of {w : Nat} {ks : List Int} {X : List Nat} {m : Int} {CH : List (List Nat)} (hw : 1 ≤ w ∧ w ≤ 4) (hn : ks.length ≤ 12) (hX : X ∈ stkL w ks ks.length) (hXm : ∀ Y ∈ stkL w ks ks.length, Y.length ≤ X.length)
    (hm1 : ∀ i, i < ks.length → m ≤ keyAt ks i) (hm2 : 1 ≤ ks.length → m ∈ ks) (hR : FcR ks.length w ks ks.length CH) : Fd w ks X m CH := by
  have mx := fc_mx hw hn hR
  have ok := fc_ok hw hn _ CH (Nat.le_refl _) hR
  rw [Nat.sub_self] at ok
  obtain ⟨a, b, c⟩ := stk_ok hw _ hn X hX
  have hnd : X.Nodup := List.nodup_iff_pairwise_ne.mpr (a.imp fun h => Nat.ne_of_lt h)
  refine ⟨mx, ok, a, b, c, Nat.le_antisymm (mx.le X hnd b c) ?_, hm1, hm2⟩
  obtain ⟨Y, y1, y2, y3, y4⟩ := mx.ex
  obtain ⟨Z, z1, z2⟩ := stk_all _ Y y1 y2 y3
  rw [← y4, ← z2.length_eq]
  exact hXm Z z1
theorem b_arm (T : Tx K mg A) : L2.Binds K A.d__law_arms ["draw"] [] := T.F__law_arms.binds fun _ _ _ _ _ _ us hl => match us, hl with | [_], _ => rfl
theorem b_keys (T : Tx K mg A) : L2.Binds K A.d__law_keys ["draw", "most", "span"] [] := T.F__law_keys.binds fun _ _ _ _ _ _ us hl => match us, hl with | [_, _, _], _ => rfl
theorem b_pick (T : Tx K mg A) : L2.Binds K A.d__law_pick ["draw", "things"] [] := T.F__law_pick.binds fun _ _ _ _ _ _ us hl => match us, hl with | [_, _], _ => rfl
theorem fdM_shows (a b c : V) : (fdM a b c).lookup ("shows" : Str) = none := by
  unfold fdM
  rw [lookup_putF, if_neg (by decide +kernel), lookup_putF, if_neg (by decide +kernel), lookup_putF, if_neg (by decide +kernel)]
  rfl
theorem kb_mend (T : Tx K mg A) : ∃ mv : List Value, KBn K A.d_mend ["row", "arms"] 1 ["arms"] (fun us ws => us ++ (mv ++ ws)) (fun vs zs => vs ++ zs) := by
  obtain ⟨mv, h⟩ := T.F_mend.kbinds0 (ps := ["row", "arms"]) 1 ["arms"] [] (fun us mv ws => us ++ (mv ++ ws)) (by simp) (by simp) (fun r1 r2 r3 => r1.append (r2.append r3))
    (fun D doc pm an cdv ct us mv ws h1 h2 h3 => by
      match us, mv, ws, h1, h2, h3 with
      | [a], [], [c], _, _, _ => rfl)
  exact ⟨mv, h⟩
def mrL (w : Nat) (ks : List Int) (X : List Nat) (m : Int) : Nat → List Int
  | 0 => []
  | i + 1 => mrL w ks X m i ++ [if i ∈ X then keyAt ks i else if i = 0 then m else keyAt (mrL w ks X m i) ((i - 1) / w)]
end
end Tw

set_option Elab.async false
set_option linter.all false
set_option maxRecDepth 100000
set_option maxHeartbeats 2000000
namespace Tw
open PySem PySem.Spec PyProof.Rows L2
section
variable {P : Program} {w : World} {K : PySem.W.Frag} {mg : Str → Option Value} {base : Heap} {A : Ad}
open LamX (ExtN Tabs TabS)
theorem mr_len (w : Nat) (ks : List Int) (X : List Nat) (m : Int) : ∀ i, (mrL w ks X m i).length = i
  | 0 => rfl
  | i + 1 => by
    show (mrL w ks X m i ++ [_]).length = _
    rw [List.length_append, mr_len w ks X m i]
    rfl
/-- what stood before an instance was made stands behind its making -/
theorem new_same {C x dx : Addr} {H H' : Hp} (nx : H x = none) (ndx : H dx = none) (k : ∀ b o, (upd (upd H dx (.own x)) x (.ins C dx [])) b = some o → b ≠ x → H' b = some o) : Same H H' := fun b o e => by
  refine k b o ?_ (ne_of_none e nx)
  rw [upd_ne (ne_of_none e nx), upd_ne (ne_of_none e ndx)]
  exact e
theorem new_up {C x dx : Addr} {H : Hp} (nx : H x = none) (ndx : H dx = none) (nex : dx ≠ x) : Same H (upd (upd H dx (.own x)) x (.ins C dx [])) :=
  (Same.up ndx).trans (Same.up (by rw [upd_ne nex.symm]; exact nx))
def spPick (K : PySem.W.Frag) : Sp := fun vs H Q _ => ∃ (d a b : Addr) (ns zs : List Int) (k : Nat), vs = [.ref d, .ref b] ∧ DrAt K H d a ns k ∧ k < 50000 ∧ H b = some (.lst (zs.map V.int)) ∧ b ≠ d ∧ 0 < zs.length ∧
  ∀ (H' : Hp) (z : Int), But d H H' → DrAt K H' d a ns (k + 1) → z ∈ zs → Q (.int z) H'
theorem ok_pick (T : Tx K mg A) : FnOk P w K mg base CX0 4 A.f__law_pick A.d__law_pick ["draw", "things"] (spPick K) := by
  refine T.F__law_pick.ok sc__law_pick (fun vs H Q E h => ?_) (fun cdv B outer s H vs Q E hr h => ?_)
  · obtain ⟨d, a, b, ns, zs, k, rfl, _⟩ := h
    rfl
  · obtain ⟨d, a, b, ns, zs, k, rfl, dr, hk, hb, hbd, hz, q⟩ := h
    refine ⟨_, pss_one (ps_ret (pe_ix ix_list (pv 1) (pe_call (ok_take T) hr (by rfl) T.m__law_take T.F__law_take.kp (b_take T) .nil pass0 (pa_cons (pv 0) (pa_cons (pe_callB call_len_seq (by rfl) T.g_len PySem.boot_len (pa_cons (pv 1) pa_nil)) pa_nil))) (fun _ _ => rfl))), ?_⟩
    refine ⟨_, rfl, _, rfl, _, rfl, b, _, rfl, .inl (SqL.of hb), d, a, ns, k, (zs.map V.int).length, rfl, dr, by omega, by rw [List.length_map]; exact hz, fun H1 r b1 dr1 hr1 => ?_⟩
    rw [List.length_map] at hr1
    have e : (zs.map V.int)[r]? = some (V.int zs[r]) := by rw [List.getElem?_map, List.getElem?_eq_getElem hr1]; rfl
    exact ⟨b, _, _, _, rfl, rfl, SqL.of (b1 _ _ hbd hb), atI_nat e, q H1 _ b1 dr1 (List.getElem_mem hr1)⟩
def spArm (K : PySem.W.Frag) : Sp := fun vs H Q _ => ∃ (d a : Addr) (ns : List Int) (k : Nat), vs = [.ref d] ∧ DrAt K H d a ns k ∧ k < 50000 ∧
  ∀ (H' : Hp) (w : Nat), But d H H' → DrAt K H' d a ns (k + 1) → (1 ≤ w ∧ w ≤ 4) → Q (.int w) H'
theorem ok_arm (T : Tx K mg A) : FnOk P w K mg base CX0 5 A.f__law_arms A.d__law_arms ["draw"] (spArm K) := by
  refine T.F__law_arms.ok sc__law_arms (fun vs H Q E h => ?_) (fun cdv B outer s H vs Q E hr h => ?_)
  · obtain ⟨d, a, ns, k, rfl, _⟩ := h
    rfl
  · obtain ⟨d, a, ns, k, rfl, dr, hk, q⟩ := h
    refine ⟨_, pss_one (ps_ret (pe_call (ok_pick T) hr (by rfl) T.m__law_pick T.F__law_pick.kp (b_pick T) .nil pass0 (pa_cons (pv 0) (pa_cons (pe_lst (pa_cons pe_int (pa_cons pe_int (pa_cons pe_int (pa_cons pe_int (pa_cons pe_int (pa_cons pe_int pa_nil))))))) pa_nil)))), ?_⟩
    refine ⟨_, rfl, by show 6 ≤ sizeLine; decide, fun b hb => ?_⟩
    have hbd : b ≠ d := fun z => by rw [z, dr.l] at hb; cases hb
    refine ⟨d, a, b, ns, [2, 2, 2, 3, 1, 4], k, rfl, dr.same (Same.up hb), hk, upd_same, hbd, by decide, fun H1 z b1 dr1 hz => ?_⟩
    have h4 : 1 ≤ z ∧ z ≤ 4 := by
      simp only [List.mem_cons, List.not_mem_nil, or_false] at hz
      omega
    obtain ⟨w, rfl⟩ : ∃ w : Nat, z = (w : Int) := ⟨z.toNat, by omega⟩
    exact q H1 w ((But.of (Same.up hb)).trans b1) dr1 ⟨by omega, by omega⟩
def spKeys (K : PySem.W.Frag) : Sp := fun vs H Q _ => ∃ (d a : Addr) (ns : List Int) (k m s : Nat), vs = [.ref d, .int m, .int s] ∧ DrAt K H d a ns k ∧ k < 50000 ∧ m ≤ 12 ∧ 0 < s ∧
  ∀ (H' : Hp) (q : Addr) (ks : List Int) (k' : Nat), But d H H' → DrAt K H' d a ns k' → k' ≤ k + 14 → ks.length ≤ m → (∀ z ∈ ks, -((s : Int) / 2) ≤ z ∧ z < (s : Int) - (s : Int) / 2) → H q = none → H' q = some (.lst (ks.map V.int)) → Q (.ref q) H'
theorem ok_keys (T : Tx K mg A) : FnOk P w K mg base CX0 4 A.f__law_keys A.d__law_keys ["draw", "most", "span"] (spKeys K) := by
  refine T.F__law_keys.ok sc__law_keys (fun vs H Q E h => ?_) (fun cdv B outer s H vs Q E hr h => ?_)
  · obtain ⟨d, a, ns, k, m, s, rfl, _⟩ := h
    rfl
  · obtain ⟨d, a, ns, k, m, sp, rfl, dr, hk, hm, hs, q⟩ := h
    have nd := sc__law_keys.nd
    refine ⟨_, pss_one (ps_ret (pe_lc (own := [("turn", 3)]) (g := gName 3) (tt := tYes) rfl nd (pi_range1 rfl T.g_range (pa_cons (pe_call (ok_take T) hr (by rfl) T.m__law_take T.F__law_take.kp (b_take T) .nil pass0 (pa_cons (pv 0) (pa_cons (pe_op op_add (pv 1) pe_int) pa_nil))) pa_nil))
      (blkOk_by (own := [("turn", 3)]) (N := ["draw", "most", "span", "turn"]) (sc := defScope s__law_keys) (by decide +kernel))
      (fun _ _ _ _ _ => pg_name (i := 3) nd rfl (Or.inl rfl)) (fun _ _ _ _ _ => pts_nil)
      (fun _ _ _ _ _ => pe_op op_sub (pe_call (ok_take T) hr (by rfl) T.m__law_take T.F__law_take.kp (b_take T) .nil pass0 (pa_cons (pv 0) (pa_cons (pv 2) pa_nil)))
        (pe_callTy call_int1 (by rfl) T.g_int (by decide +kernel) (pa_cons (pe_op op_fdiv (pv 2) pe_int) pa_nil))))), ?_⟩
    refine ⟨_, rfl, _, rfl, _, _, rfl, rfl, d, a, ns, k, m + 1, rfl, dr, by omega, by omega, fun H1 r b1 dr1 hr1 => ?_⟩
    refine ⟨_, rfl, by omega, by omega, fun D hD => ?_⟩
    rw [Int.toNat_natCast]
    have hDd : D ≠ d := fun z => by rw [z, dr1.l] at hD; cases hD
    have hD0 : H D = none := by
      cases e : H D with
      | none => rfl
      | some o => rw [b1 D o hDd e] at hD; cases hD
    refine lc_it (walk_range (lo := 0) (n := r)) (fun i H' => ∃ ks : List Int, H' D = some (.lst (ks.map V.int)) ∧ ks.length = i ∧ (∀ z ∈ ks, -((sp : Int) / 2) ≤ z ∧ z < (sp : Int) - (sp : Int) / 2) ∧ But d H H' ∧ DrAt K H' d a ns (k + 1 + i))
      ⟨[], upd_same, rfl, fun z hz => (nomatch hz), ?_, ?_⟩ (fun k H' _ h => trivial) ?_ ?_
    · exact b1.trans (But.of (Same.up hD))
    · exact ⟨(Same.up hD) _ _ dr1.l, dr1.n, (Same.up hD).seq dr1.s, dr1.h⟩
    · rintro i x H2 H3 hi ⟨ks, h1, h2, h3, h4, h5⟩ ⟨rfl, ex⟩
      refine ⟨rfl, ?_⟩
      refine iteT (B := ∃ ks : List Int, H3 D = some (.lst (ks.map V.int)) ∧ ks.length = i + 1 ∧ (∀ z ∈ ks, -((sp : Int) / 2) ≤ z ∧ z < (sp : Int) - (sp : Int) / 2) ∧ But d H H3 ∧ DrAt K H3 d a ns (k + 1 + (i + 1))) ?_
      refine ⟨_, rfl, _, rfl, d, a, ns, k + 1 + i, sp, rfl, h5, by omega, hs, fun H4 v b4 dr4 hv => ?_⟩
      refine ⟨_, rfl, _, _, rfl, rfl, ⟨by decide, by decide⟩, .inl ⟨_, rfl, _, _, rfl, rfl, ?_⟩⟩
      have bf : ∀ zs : List V, But d H (upd H4 D (.lst zs)) := fun zs b o hb e => by
        rw [upd_ne (ne_of_none e hD0)]
        exact b4 _ _ hb (h4 b o hb e)
      refine ⟨_, b4 _ _ hDd h1, small1000 (by rw [List.length_map]; omega), ks ++ [(v : Int) - (sp : Int) / 2], ?_, by rw [List.length_append, h2]; rfl, ?_, ?_, ?_⟩
      · rw [upd_same, List.map_append]
        rfl
      · intro z hz
        rcases List.mem_append.mp hz with hz | hz
        · exact h3 z hz
        · rw [List.mem_singleton.mp hz]
          omega
      · exact bf _
      · exact ⟨by rw [upd_ne hDd.symm]; exact dr4.l, dr4.n, (bf _).seq dr.s dr.n, dr4.h⟩
    · rintro H2 ⟨ks, h1, h2, h3, h4, h5⟩
      exact q _ D ks _ h4 h5 (by omega) (by omega) h3 hD0 h1
theorem way_n12 : ∀ w, w < 5 → ∀ i, i < 13 → 1 ≤ w → (wayL w i).length ≤ 13 := by decide +kernel
theorem stk_len (w : Nat) (ks : List Int) : ∀ i, (stkL w ks i).length ≤ 2 ^ i
  | 0 => Nat.le_refl _
  | i + 1 => by
    have ih := stk_len w ks i
    have h := List.length_filter_le (okK w ks i) (stkL w ks i)
    unfold stkL
    rw [List.length_append, List.length_map, Nat.pow_succ]
    omega
theorem rows_app {H : Hp} : ∀ {xs : List V} {ls : List (List Int)} {ys : List V} {ms : List (List Int)}, RowsAt H xs ls → RowsAt H ys ms → RowsAt H (xs ++ ys) (ls ++ ms)
  | _, _, _, _, .nil, h => h
  | _, _, _, _, .cons a b, h => .cons a (rows_app b h)
def spStk (K : PySem.W.Frag) (C : Addr) : Sp := fun vs H Q _ => ∃ (r x n w : Nat) (ks : List Int), vs = [.ref r, .ref x] ∧ TreeAt C H x n w ∧ Sq H r (ks.map V.int) ∧ ks.length = n ∧ n ≤ 12 ∧
  ∀ (H' : Hp) (q : Addr) (xs : List V), Same H H' → H' q = some (.lst xs) → RowsAt H' xs ((stkL w ks n).map zI) → Q (.ref q) H'
theorem ok_stk (T : Tx K mg A) : FnOk P w K mg base CX0 8 A.f_sets_to_keep A.d_sets_to_keep ["row", "tree"] (spStk K A.C) := by
  refine T.F_sets_to_keep.ok sc_sets_to_keep (fun vs H Q E h => ?_) (fun cdv B outer s H vs Q E hr h => ?_)
  · obtain ⟨r, x, n, w, ks, rfl, _⟩ := h
    rfl
  · obtain ⟨r, x, n, w1, ks, rfl, t1, hrow, hkl, hn, q⟩ := h
    have nd := sc_sets_to_keep.nd
    have hw := t1.hw
    refine ⟨_, PSs.nox (pss_cons (ps_set (i := 2) nd rfl (Or.inl rfl) (pe_lst (pa_cons (pe_tup pa_nil) pa_nil)))
      (C8.pss_cut (ps_for PassesOwn.never rfl (pi_own T.D_t___iter__ (ok_iter T) (hr.mono (by decide)) (b_iter T) (pv 1)) (pg_name (i := 3) nd rfl (Or.inr rfl)) (C8.pss_cut (ps_set (i := 4) nd rfl (Or.inr rfl) (pe_lc (own := [("above", 5)]) (g := gName 5) rfl nd (pi_tup (pe_meth (pv 1) T.cT T.M_t_way_to (ok_way T) (hr.mono (by decide)) (b_way T) .nil pass0 (pa_cons (pv 3) pa_nil))) (blkOk_by (own := [("above", 5)]) (N := ["row", "tree", "found", "place", "greater", "above", "kept"]) (sc := defScope s_sets_to_keep) (by decide +kernel)) (fun _ _ _ _ _ => pg_name (i := 5) nd rfl (Or.inl rfl)) (fun _ _ _ _ _ => pts_one (pt_cmpR op_gt (pe_ix (r := rIx K) ix_seq (pv 0) (pv 5) (fun _ _ => rfl)) (pe_ix (r := rIx K) ix_seq (pv 0) (pv 3) (fun _ _ => rfl)) (nomark _))) (fun _ _ _ _ _ => (pv 5))))
      (pss_one (ps_set (i := 2) nd rfl (Or.inl rfl) (pe_op op_cat (pv 2) (pe_lc (own := [("kept", 6)]) (g := gName 6) rfl nd (pi_list (pv 2)) (blkOk_by (own := [("kept", 6)]) (N := ["row", "tree", "found", "place", "greater", "above", "kept"]) (sc := defScope s_sets_to_keep) (by decide +kernel)) (fun _ _ _ _ _ => pg_name (i := 6) nd rfl (Or.inr rfl)) (fun _ _ _ _ _ => pts_one (pt_val (pe_callB (r := rAll K) (cr_all rfl) (by rfl) T.g_all (by decide +kernel) (pa_cons (pe_lc (own := [("above", 5)]) (g := gName 5) (tt := tYes) rfl nd (pi_listK (K := K) rfl (pv 4)) (blkOk_in (own := [("above", 5)]) (N := ["row", "tree", "found", "place", "greater", "above", "kept"]) (sc0 := defScope s_sets_to_keep) rfl rfl (by decide +kernel)) (fun _ _ _ _ _ => pg_name (i := 5) nd rfl (Or.inl rfl)) (fun _ _ _ _ _ => pts_nil) (fun _ _ _ _ _ => (pe_cmpR (r := L2.rIn K true) op_notIn_seq (pv 5) (pv 6) (by rfl)))) pa_nil)))) (fun _ _ _ _ _ => (pe_op (r := rCatA K) op_catA (pv 6) (pe_tup (pa_cons (pv 3) pa_nil))))))))))
      (pss_one (ps_ret (pv 2))))), ?_⟩
    refine ⟨by show 0 ≤ sizeLine; decide, fun e ne => ⟨by show 1 ≤ sizeLine; decide, fun D nD => ?_⟩⟩
    have se : Same H (upd (upd H e (.tup [])) D (.lst [V.ref e])) := (Same.up ne).trans (Same.up nD)
    have eD : upd (upd H e (.tup [])) D (.lst [V.ref e]) D = some (.lst [V.ref e]) := upd_same
    have r0 : RowsAt (upd (upd H e (.tup [])) D (.lst [V.ref e])) [V.ref e] ((stkL w1 ks 0).map zI) := .cons ⟨e, rfl, (Same.up nD) _ _ upd_same⟩ .nil
    generalize upd (upd H e (.tup [])) D (.lst [V.ref e]) = H1 at se eD r0
    have t2 := t1.same se
    obtain ⟨dx, l, h1, h2⟩ := id t2.ob
    have noW : (tf n w1 l).lookup ("way_to" : Str) = none := tf_no _ _ _ (by decide +kernel) (by decide +kernel) (by decide +kernel)
    refine ⟨fun σ' H' => ∃ (q2 : Addr) (xs : List V) (x3 x4 x5 x6 : Option V), σ' = [some (.ref r), some (.ref x), some (.ref q2), x3, x4, x5, x6] ∧ Same H1 H' ∧ H' q2 = some (.lst xs) ∧ RowsAt H' xs ((stkL w1 ks n).map zI), ?_, ?_⟩
    · refine ⟨_, rfl, x, dx, _, l, _, rfl, h1, tf_pl _ _ _, SqT.of h2, ?_⟩
      refine for_it (walk_tup (xs := pl n)) (fun i σ' H' => ∃ (q2 : Addr) (xs : List V) (x3 x4 x5 x6 : Option V), σ' = [some (.ref r), some (.ref x), some (.ref q2), x3, x4, x5, x6] ∧ Same H1 H' ∧ H' q2 = some (.lst xs) ∧ RowsAt H' xs ((stkL w1 ks i).map zI))
        ⟨D, _, none, none, none, none, rfl, Same.refl _, eD, r0⟩ (fun i σ' H' _ ⟨_, _, _, _, _, _, _, s, _⟩ => SqT.of (s _ _ h2)) ?_ (fun σ' H' h => by rw [pl_len] at h; exact h)
      rintro i y σ' Ho H2 hi ⟨q2, xs, x3, x4, x5, x6, rfl, s2, e2, r2⟩ ⟨rfl, hy⟩
      obtain ⟨hi2, rfl⟩ := plAt hy
      have hwl := way_n12 w1 (by omega) i (by omega) hw.1
      have hrow2 : Sq H2 r (ks.map V.int) := hrow.imp (fun z => (se.trans s2) _ _ z) fun z => (se.trans s2) _ _ z
      -- the greater ones
      refine ⟨fun σ' H' => ∃ (q4 : Addr) (x5 x6 : Option V), σ' = [some (.ref r), some (.ref x), some (.ref q2), some (.int (i : Nat)), some (.ref q4), x5, x6] ∧ Same H2 H' ∧ H' q4 = some (.lst (vi (grK w1 ks i))), ?_, ?_⟩
      · refine ⟨_, rfl, x, dx, _, rfl, s2 _ _ h1, noW, _, rfl, x, n, w1, i, rfl, t2.same s2, hi2, fun H3 qw s3 nw ew => ?_⟩
        refine ⟨qw, rfl, ⟨_, SqT.of ew⟩, fun D4 nD4 => ?_⟩
        refine lc_it (walk_tup (xs := vi (wayL w1 i))) (fun m H' => Acc H3 D4 (vi (((wayL w1 i).take m).filter fun a => decide (keyAt ks a > keyAt ks i))) H') (Acc.start nD4) (fun m H' _ ac => SqT.of (ac.s _ _ ew)) ?_ ?_
        · rintro m y Ho H4 hm ac ⟨rfl, hy⟩
          obtain ⟨hm2, rfl⟩ := viAt hy
          have hle := up_le w1 (by omega) i (by omega) hw.1 _ (List.getElem_mem hm2)
          have hr4 : Sq H4 r (ks.map V.int) := hrow2.imp (fun z => (s3.trans ac.s) _ _ z) fun z => (s3.trans ac.s) _ _ z
          rw [List.take_succ_eq_append_getElem hm2, List.filter_append]
          have hfl := List.length_filter_le (fun a => decide (keyAt ks a > keyAt ks i)) ((wayL w1 i).take m)
          rw [List.length_take] at hfl
          generalize (wayL w1 i)[m] = a at *
          refine ⟨rfl, _, rfl, _, rfl, ixS hr4 (key_at (show a < ks.length by omega)) ⟨_, rfl, _, rfl, ixS hr4 (key_at (show i < ks.length by omega)) ⟨_, _, rfl, rfl, _, rfl, ?_⟩⟩⟩
          by_cases hg : keyAt ks a > keyAt ks i
          · refine ite_b (c := true) (decide_eq_true (by omega)) (iteT ⟨_, rfl, _, ac.a, by rw [vi_len, sizeLine_eq]; omega, ?_⟩)
            rw [List.filter_cons_of_pos (p := fun a => decide (keyAt ks a > keyAt ks i)) (decide_eq_true hg), List.filter_nil, vi_app]
            exact ac.push
          · refine ite_b (c := false) (decide_eq_false (by omega)) (iteF ?_)
            rw [List.filter_cons_of_neg (p := fun a => decide (keyAt ks a > keyAt ks i)) (by rw [decide_eq_true_eq]; exact hg), List.filter_nil, List.append_nil]
            exact ac
        · intro H4 ac
          rw [vi_len, List.take_length] at ac
          exact ⟨D4, _, _, rfl, s3.trans ac.s, ac.a⟩
      rintro σ' H3 ⟨q4, y5, y6, rfl, s3, e4⟩
      -- the sets with it
      have e23 := s3 _ _ e2
      have hsl := stk_len w1 ks i
      have h2i : (2 : Nat) ^ i ≤ 2 ^ 12 := Nat.pow_le_pow_right (by decide) (by omega)
      have hgl : (grK w1 ks i).length ≤ 13 := Nat.le_trans (List.length_filter_le _ _) hwl
      refine ⟨_, rfl, _, rfl, q2, rfl, ⟨_, SqL.of e23⟩, fun D6 nD6 => ?_⟩
      refine lc_it (walk_list (xs := xs)) (fun m H' => AccR H3 D6 (((((stkL w1 ks i).take m).filter (okK w1 ks i)).map fun X => X ++ [i]).map zI) H') (AccR.start nD6) (fun m H' _ ac => SqL.of (ac.s _ _ e23)) ?_ ?_
      · rintro m y Ho H4 hm ac ⟨rfl, hy⟩
        obtain ⟨hm1, t, rfl, et⟩ := ((r2.same s3).same ac.s).get hy
        rw [List.length_map] at hm1
        rw [List.getElem_map, zI_vi] at et
        obtain ⟨hXa, hXl, _⟩ := stk_ok hw i (by omega) _ (List.getElem_mem hm1)
        rw [List.take_succ_eq_append_getElem hm1, List.filter_append]
        have hfl := List.length_filter_le (okK w1 ks i) ((stkL w1 ks i).take m)
        rw [List.length_take] at hfl
        generalize (stkL w1 ks i)[m] = X at *
        have hXn : X.length ≤ 12 := by
          have hs : X ⊆ List.range i := fun x hx => List.mem_range.mpr (hXl x hx)
          have := (List.nodup_iff_pairwise_ne.mpr (hXa.imp fun h => Nat.ne_of_lt h)).length_le_of_subset hs
          rw [List.length_range] at this
          omega
        refine ⟨rfl, _, rfl, q4, rfl, ⟨_, SqL.of (ac.s _ _ e4)⟩, fun D7 nD7 => ?_⟩
        refine lc_it (walk_list (xs := vi (grK w1 ks i))) (fun k H' => Acc H4 D7 ((((grK w1 ks i).take k).map fun a => !decide (a ∈ X)).map V.bl) H') (Acc.start nD7) (fun k H' _ ac2 => SqL.of (ac2.s _ _ (ac.s _ _ e4))) ?_ ?_
        · rintro k y Ho H5 hk ac2 ⟨rfl, hy⟩
          obtain ⟨hk2, rfl⟩ := viAt hy
          rw [List.take_succ_eq_append_getElem hk2, List.map_append, List.map_append]
          have hkl2 : ((grK w1 ks i).take k).length ≤ 13 := by rw [List.length_take]; omega
          generalize (grK w1 ks i)[k] = a at *
          refine ⟨rfl, iteT (B := Acc H4 D7 ((((grK w1 ks i).take k).map fun a => !decide (a ∈ X)).map V.bl ++ ([a].map fun a => !decide (a ∈ X)).map V.bl) H5) ⟨_, rfl, _, rfl, t, _, rfl, .inr (SqT.of (ac2.s _ _ et)), rfl, vi_flat _, _, ac2.a, by rw [List.length_map, List.length_map, sizeLine_eq]; omega, ?_⟩⟩
          show Acc H4 D7 _ (upd H5 D7 (.lst (_ ++ [V.bl (!inV (V.int (a : Nat)) (vi X))])))
          rw [mem_vi]
          exact ac2.push
        · intro H5 ac2
          rw [vi_len, List.take_length] at ac2
          have ac5 := ac.same ac2.s
          refine ⟨D7, _, rfl, SqL.of ac2.a, _, rfl, ?_⟩
          rw [show ((grK w1 ks i).map fun a => !decide (a ∈ X)).all id = okK w1 ks i X by rw [List.all_map]; rfl]
          cases hok : okK w1 ks i X with
          | true =>
            refine iteT ⟨_, rfl, _, rfl, by show 1 ≤ sizeLine; decide, fun u nu => ?_⟩
            have su := Same.up (o := .tup [V.int (i : Nat)]) nu
            refine catTup (su _ _ (ac2.s _ _ et)) upd_same (by rw [vi_len]; show _ + 1 ≤ 1000; omega) fun H6 c sc ec => ?_
            rw [List.filter_cons_of_pos hok, List.filter_nil, List.map_append, List.map_append]
            refine (ac5.same (su.trans sc)).push (x := .ref c) (l := zI (X ++ [i])) ⟨c, rfl, ?_⟩ (by rw [List.length_map, List.length_map, sizeLine_eq]; omega)
            rw [zI_vi, vi_app]
            exact ec
          | false =>
            refine iteF ?_
            rw [List.filter_cons_of_neg (by rw [hok]; exact Bool.false_ne_true), List.filter_nil, List.append_nil]
            exact ac5
      · intro H4 ac
        obtain ⟨ys, ey, ry⟩ := ac.a
        have hxl : xs.length = (stkL w1 ks i).length := by rw [Paired.length r2, List.length_map]
        rw [hxl, List.take_length] at ry
        have hyl := Paired.length ry
        have hfl := List.length_filter_le (okK w1 ks i) (stkL w1 ks i)
        rw [List.length_map, List.length_map] at hyl
        refine ⟨q2, D6, xs, ys, rfl, rfl, ac.s _ _ e23, ey, by rw [sizeLine_eq]; omega, fun c nc => ?_⟩
        have sc := Same.up (o := .lst (xs ++ ys)) nc
        refine ⟨c, xs ++ ys, _, _, _, _, rfl, s2.trans (s3.trans (ac.s.trans sc)), upd_same, ?_⟩
        show RowsAt _ (xs ++ ys) ((stkL w1 ks i ++ ((stkL w1 ks i).filter (okK w1 ks i)).map fun X => X ++ [i]).map zI)
        rw [List.map_append]
        exact rows_app (((r2.same s3).same ac.s).same sc) (ry.same sc)
    rintro σ' H2 ⟨q2, xs, x3, x4, x5, x6, rfl, s2, e2, r2⟩
    exact ⟨_, rfl, q _ q2 xs (se.trans s2) e2 r2⟩
theorem b_stk (T : Tx K mg A) : L2.Binds K A.d_sets_to_keep ["row", "tree"] [] := T.F_sets_to_keep.binds fun _ _ _ _ _ _ us hl => match us, hl with | [_, _], _ => rfl
theorem min_ex (f : Nat → Int) : ∀ l : List Nat, l ≠ [] → ∃ c ∈ l, ∀ d ∈ l, f c ≤ f d
  | [], h => absurd rfl h
  | [a], _ => ⟨a, List.mem_singleton.mpr rfl, fun d hd => by rw [List.mem_singleton.mp hd]; exact Int.le_refl _⟩
  | a :: b :: l, _ => by
    obtain ⟨c, hc, h⟩ := min_ex f (b :: l) (List.cons_ne_nil _ _)
    by_cases e : f a ≤ f c
    · refine ⟨a, List.mem_cons_self, fun d hd => ?_⟩
      rcases List.mem_cons.mp hd with z | z
      · rw [z]
        exact Int.le_refl _
      · exact Int.le_trans e (h d z)
    · refine ⟨c, List.mem_cons_of_mem _ hc, fun d hd => ?_⟩
      rcases List.mem_cons.mp hd with z | z
      · rw [z]
        omega
      · exact h d z
def spMrow (C : Addr) : Sp := fun vs H Q _ => ∃ (r k x n w : Nat) (ks : List Int) (X : List Nat), vs = [.ref r, .ref k, .ref x] ∧ H r = some (.lst (ks.map V.int)) ∧ H k = some (.tup (vi X)) ∧ TreeAt C H x n w ∧ ks.length = n ∧ n ≤ 12 ∧
  ∀ (H' : Hp) (q : Addr) (m : Int), Same H H' → (∀ i, i < n → m ≤ keyAt ks i) → (1 ≤ n → m ∈ ks) → H' q = some (.lst ((mrL w ks X m n).map V.int)) → Q (.ref q) H'
theorem ok_mrow (T : Tx K mg A) : FnOk P w K mg base CX0 8 A.f_mended_row A.d_mended_row ["row", "kept", "tree"] (spMrow A.C) := by
  refine T.F_mended_row.ok sc_mended_row (fun vs H Q E h => ?_) (fun cdv B outer s H vs Q E hr h => ?_)
  · obtain ⟨r, k, x, n, w, ks, X, rfl, _⟩ := h
    rfl
  · obtain ⟨r, k, x, n, w1, ks, X, rfl, er, ek, t1, hkl, hn, q⟩ := h
    have nd := sc_mended_row.nd
    have hw := t1.hw
    obtain ⟨m, hm1, hm2⟩ : ∃ m : Int, (∀ i, i < n → m ≤ keyAt ks i) ∧ (1 ≤ n → m ∈ ks) := by
      cases ks with
      | nil => exact ⟨0, fun i hi => by rw [← hkl] at hi; exact absurd hi (Nat.not_lt_zero _), fun h => by rw [← hkl] at h; exact absurd h (by decide)⟩
      | cons a l =>
        obtain ⟨c, hc, hmin⟩ := min_ex (fun i => keyAt (a :: l) i) (List.range n) (by rw [← hkl]; exact fun h => by rw [List.range_eq_nil] at h; cases h)
        exact ⟨keyAt (a :: l) c, fun i hi => hmin i (List.mem_range.mpr hi), fun _ => keyAt_mem (by rw [hkl]; exact List.mem_range.mp hc)⟩
    refine ⟨_, PSs.nox (pss_cons (ps_set (i := 3) nd rfl (Or.inl rfl) (pe_lst pa_nil))
      (C8.pss_cut (ps_for PassesOwn.never rfl (pi_own T.D_t___iter__ (ok_iter T) (hr.mono (by decide)) (b_iter T) (pv 2)) (pg_name (i := 4) nd rfl (Or.inl rfl)) (pss_one (ps_if (pt_cmpR (r := L2.rIn K false) op_in_seq (pv 4) (pv 1) (by rfl)) (pss_one (ps_expr (pe_bm PySem.F.plainAttrs_list PySem.F.slot_list_append PySem.F.type_list_append mt_append (pv 3) (pa_cons (pe_ix (r := rIx K) ix_seq (pv 0) (pv 4) (fun _ _ => rfl)) pa_nil)))) (pss_one (ps_if (pt_cmpR op_eq (pv 4) pe_int (nomark _)) (pss_one (ps_expr (pe_bm PySem.F.plainAttrs_list PySem.F.slot_list_append PySem.F.type_list_append mt_append (pv 3) (pa_cons (pe_callB (r := rMin K) (cr_min rfl) (by rfl) T.g_min (by decide +kernel) (pa_cons (pv 0) pa_nil)) pa_nil)))) (pss_one (ps_expr (pe_bm PySem.F.plainAttrs_list PySem.F.slot_list_append PySem.F.type_list_append mt_append (pv 3) (pa_cons (pe_ix (r := rIxL K) ix_list (pv 3) (pe_meth (pv 2) T.cT T.M_t_parent (ok_par T) (hr.mono (by decide)) (b_par T) .nil pass0 (pa_cons (pv 4) pa_nil)) (fun _ _ => rfl)) pa_nil)))))))))
      (pss_one (ps_ret (pv 3))))), ?_⟩
    refine ⟨by show 0 ≤ sizeLine; decide, fun D nD => ?_⟩
    obtain ⟨dx, l, h1, h2⟩ := id t1.ob
    have noP : (tf n w1 l).lookup ("parent" : Str) = none := tf_no _ _ _ (by decide +kernel) (by decide +kernel) (by decide +kernel)
    have ac0 : Acc H D [] (upd H D (.lst [])) := Acc.start nD
    refine ⟨fun σ' H' => ∃ x4 : Option V, σ' = [some (.ref r), some (.ref k), some (.ref x), some (.ref D), x4] ∧ Acc H D ((mrL w1 ks X m n).map V.int) H', ?_, ?_⟩
    · refine ⟨_, rfl, x, dx, _, l, _, rfl, ac0.s _ _ h1, tf_pl _ _ _, SqT.of (ac0.s _ _ h2), ?_⟩
      refine for_it (walk_tup (xs := pl n)) (fun i σ' H' => ∃ x4 : Option V, σ' = [some (.ref r), some (.ref k), some (.ref x), some (.ref D), x4] ∧ Acc H D ((mrL w1 ks X m i).map V.int) H')
        ⟨none, rfl, ac0⟩ (fun i σ' H' _ ⟨_, _, ac⟩ => SqT.of (ac.s _ _ h2)) ?_ (fun σ' H' h => by rw [pl_len] at h; exact h)
      rintro i y σ' Ho H2 hi ⟨x4, rfl, ac⟩ ⟨rfl, hy⟩
      obtain ⟨hi2, rfl⟩ := plAt hy
      have hml := mr_len w1 ks X m i
      have hlt : ((mrL w1 ks X m i).map V.int).length < sizeLine := by rw [List.length_map, hml, sizeLine_eq]; omega
      have fin : ∀ (z : Int), (if i ∈ X then keyAt ks i else if i = 0 then m else keyAt (mrL w1 ks X m i) ((i - 1) / w1)) = z → Acc H D ((mrL w1 ks X m (i + 1)).map V.int) (upd H2 D (.lst ((mrL w1 ks X m i).map V.int ++ [V.int z]))) := fun z hz => by
        show Acc H D ((mrL w1 ks X m i ++ [_]).map V.int) _
        rw [hz, List.map_append]
        exact ac.push
      refine ⟨_, rfl, _, rfl, k, _, rfl, .inr (SqT.of (ac.s _ _ ek)), rfl, vi_flat _, _, rfl, ?_⟩
      by_cases hx : i ∈ X
      · refine ite_b (c := true) (show inV (V.int (i : Nat)) (vi X) = true by rw [mem_vi]; exact decide_eq_true hx) (iteT ?_)
        exact ⟨_, rfl, .inl ⟨rfl, _, SqL.of ac.a⟩, _, rfl, _, rfl, .inl ⟨r, _, _, _, rfl, rfl, SqL.of (ac.s _ _ er), key_at (show i < ks.length by omega), D, _, _, rfl, rfl, ac.a, hlt, _, rfl, fin _ (if_pos hx)⟩⟩
      · refine ite_b (c := false) (show inV (V.int (i : Nat)) (vi X) = false by rw [mem_vi]; exact decide_eq_false hx) (iteF ?_)
        by_cases h0 : i = 0
        · refine ⟨_, rfl, rfl, _, rfl, ite_b (c := true) (decide_eq_true (by rw [h0]; rfl)) (iteT ?_)⟩
          refine ⟨_, rfl, .inl ⟨rfl, _, SqL.of ac.a⟩, _, rfl, r, ks, rfl, SqL.of (ac.s _ _ er), by omega, fun z hz hmin => ?_⟩
          have hzm : m = z := by
            have a1 := hmin m (hm2 (by omega))
            obtain ⟨j, hj, ej⟩ := List.getElem_of_mem hz
            have a2 := hm1 j (by omega)
            rw [show keyAt ks j = z by unfold keyAt; rw [List.getD_eq_getElem?_getD, List.getElem?_eq_getElem hj, ej]; rfl] at a2
            omega
          exact ⟨D, _, _, rfl, rfl, ac.a, hlt, _, rfl, fin _ (by rw [if_neg hx, if_pos h0, hzm])⟩
        · refine ⟨_, rfl, rfl, _, rfl, ite_b (c := false) (decide_eq_false fun z => h0 (by injection z with z; omega)) (iteF ?_)⟩
          have hd : (i - 1) / w1 ≤ i - 1 := Nat.div_le_self _ _
          refine ⟨_, rfl, .inl ⟨rfl, _, SqL.of ac.a⟩, _, rfl, _, rfl, x, dx, _, rfl, ac.s _ _ h1, noP, _, rfl, x, n, w1, i, rfl, t1.same ac.s, hi2, ?_⟩
          rw [show parV w1 i = V.int ((i - 1) / w1 : Nat) from if_neg h0]
          exact ⟨D, _, _, _, rfl, rfl, SqL.of ac.a, key_at (show (i - 1) / w1 < (mrL w1 ks X m i).length by rw [hml]; omega), D, _, _, rfl, rfl, ac.a, hlt, _, rfl, fin _ (by rw [if_neg hx, if_neg h0])⟩
    rintro σ' H2 ⟨x4, rfl, ac⟩
    exact ⟨_, rfl, q H2 D m ac.s hm1 hm2 ac.a⟩
theorem b_mrow (T : Tx K mg A) : L2.Binds K A.d_mended_row ["row", "kept", "tree"] [] := T.F_mended_row.binds fun _ _ _ _ _ _ us hl => match us, hl with | [_, _, _], _ => rfl
structure FcS (A : Ad) (H : Hp) (D : Addr) (CH : List (List Nat)) (H' : Hp) : Prop where
  e : LamX.ExtN H H'
  t : LamX.Tabs (TT A) H'
  n : H D = Option.none
  a : ∃ xs, H' D = some (.lst xs) ∧ RowsAt H' xs (CH.map zI)
theorem FcS.ext {A : Ad} {H H1 H2 : Hp} {D : Addr} {CH : List (List Nat)} (h : FcS A H D CH H1) (e : LamX.ExtN H1 H2) (t : LamX.Tabs (TT A) H2) : FcS A H D CH H2 := ⟨h.e.trans e, t, h.n, let ⟨xs, a, b⟩ := h.a; ⟨xs, e _ _ a (fun _ z => nomatch z), b.ext e⟩⟩
theorem FcS.same {A : Ad} {H H1 H2 : Hp} {D : Addr} {CH : List (List Nat)} (h : FcS A H D CH H1) (s : Same H1 H2) : FcS A H D CH H2 := h.ext (extN_of s) (h.t.ext s)
theorem len_fl : ∀ L : List (List Nat), (∀ C ∈ L, C ≠ []) → L.length ≤ L.flatten.length
  | [], _ => Nat.le_refl _
  | C :: L, h => by
    have := len_fl L fun D hD => h D (List.mem_cons_of_mem _ hD)
    have hC : 0 < C.length := List.length_pos_iff.mpr (h C List.mem_cons_self)
    rw [List.flatten_cons, List.length_append, List.length_cons]
    omega
theorem ChOk.lens {n w : Nat} {ks : List Int} {j : Nat} {CH : List (List Nat)} (h : ChOk n w ks j CH) : CH.length ≤ n ∧ ∀ C ∈ CH, C.length ≤ n := by
  have h1 : CH.flatten.length ≤ n := by
    rw [h.pm.length_eq]
    have := List.length_filter_le (fun x => decide (j ≤ x)) (List.range n)
    rwa [List.length_range] at this
  exact ⟨Nat.le_trans (len_fl CH h.ne) h1, fun C hC => Nat.le_trans (List.sublist_flatten_of_mem hC).length_le h1⟩
theorem TreeAt.exN {C : Addr} {H H' : Hp} {p n w : Nat} (h : TreeAt C H p n w) (e : ExtN H H') : TreeAt C H' p n w :=
  ⟨let ⟨dx, t, a, b⟩ := h.ob; ⟨dx, t, e _ _ a (fun _ z => nomatch z), e _ _ b (fun _ z => nomatch z)⟩, h.hn, h.hw⟩
theorem tabs_upd {T : List (Addr × Str)} {H : Hp} {D : Addr} {xs : List V} {o : HO} (t : Tabs T H) (h : H D = some (.lst xs)) : Tabs T (upd H D o) := fun p hp => by
  obtain ⟨ps, h1, h2, h3⟩ := t p hp
  refine ⟨ps, by rw [upd_ne (ne_of h1 h (by intro z; cases z))]; exact h1, h2, fun pos cv hc => ?_⟩
  obtain ⟨c, e1, e2⟩ := h3 pos cv hc
  exact ⟨c, e1, by rw [upd_ne (ne_of e2 h (by intro z; unfold LamX.CodeO at z; cases z))]; exact e2⟩
theorem FcS.set {A : Ad} {H H1 : Hp} {D : Addr} {CH CH' : List (List Nat)} {xs ys : List V} (h : FcS A H D CH H1) (e : H1 D = some (.lst xs)) (r : RowsAt H1 ys (CH'.map zI)) : FcS A H D CH' (upd H1 D (.lst ys)) :=
  ⟨fun b o k z => by rw [upd_ne (ne_of_none k h.n)]; exact h.e _ _ k z, tabs_upd h.t e, h.n, ys, upd_same, r.put e⟩
theorem rows_erase {H : Hp} : ∀ {xs : List V} {ls : List (List Int)} (j : Nat), RowsAt H xs ls → RowsAt H (xs.eraseIdx j) (ls.eraseIdx j)
  | _, _, _, .nil => .nil
  | _, _, 0, .cons _ b => b
  | _, _, j + 1, .cons a b => .cons a (rows_erase j b)
theorem erase_at {α : Type} [BEq α] [LawfulBEq α] {a : α} : ∀ {l : List α} {j : Nat}, l[j]? = some a → (∀ m, m < j → l[m]? ≠ some a) → l.erase a = l.eraseIdx j
  | [], j, h, _ => by cases j <;> cases h
  | x :: l, 0, h, _ => by
    have h : x = a := by injection h
    rw [h, List.erase_cons_head]
    rfl
  | x :: l, j + 1, h, hn => by
    have h0 : x ≠ a := fun e => hn 0 (Nat.succ_pos _) (by rw [e]; rfl)
    rw [List.erase_cons_tail (by rw [beq_iff_eq]; exact h0), erase_at (l := l) (j := j) h fun m hm => hn (m + 1) (Nat.succ_lt_succ hm)]
    rfl
theorem find_at {α : Type} [DecidableEq α] {a : α} : ∀ {l : List α}, a ∈ l → ∃ j : Nat, l[j]? = some a ∧ ∀ m : Nat, m < j → l[m]? ≠ some a
  | [], h => nomatch h
  | x :: l, h => by
    by_cases e : x = a
    · exact ⟨0, by rw [e]; rfl, fun m hm => absurd hm (Nat.not_lt_zero _)⟩
    · obtain ⟨j, h1, h2⟩ := find_at (l := l) ((List.mem_cons.mp h).resolve_left fun z => e z.symm)
      refine ⟨j + 1, h1, fun m hm => ?_⟩
      cases m with
      | zero => exact fun z => e (by injection z)
      | succ m => exact h2 m (by omega)
theorem place_at {l : List Int} : ∀ {ls : List (List Int)} {j : Nat}, ls[j]? = some l → (∀ m, m < j → ls[m]? ≠ some l) → PySem.SeqAt.dataPlace (ls.map rowD) (rowD l) = some j
  | [], j, h, _ => by cases j <;> cases h
  | x :: ls, 0, h, _ => by
    have h : x = l := by injection h
    unfold PySem.SeqAt.dataPlace
    rw [List.map_cons, List.findIdx?_cons, rowD_eqv, decide_eq_true h]
    rfl
  | x :: ls, j + 1, h, hn => by
    have h0 : x ≠ l := fun e => hn 0 (Nat.succ_pos _) (by rw [e]; rfl)
    have ih := place_at (ls := ls) (j := j) h fun m hm => hn (m + 1) (Nat.succ_lt_succ hm)
    unfold PySem.SeqAt.dataPlace at ih ⊢
    rw [List.map_cons, List.findIdx?_cons, rowD_eqv, decide_eq_false h0, ih]
    rfl
end
end Tw

set_option Elab.async false
set_option linter.all false
set_option maxRecDepth 100000
set_option maxHeartbeats 2000000
namespace Tw
open PySem PySem.Spec PyProof.Rows L2
section
variable {P : Program} {w : World} {K : PySem.W.Frag} {mg : Str → Option Value} {base : Heap} {A : Ad}
open LamX (ExtN Tabs TabS)
theorem rowsD_plain : ∀ ls : List (List Int), PyData.plainAll (ls.map rowD) = true
  | [] => rfl
  | x :: ls => by
    rw [List.map_cons]
    unfold PyData.plainAll
    rw [rowsD_plain ls, Bool.and_true]
    exact L2.plain_ints x
theorem hd_at {C : List Nat} (h : C ≠ []) : atI (vi C) (0 : Int) = some (V.int (hdC C : Nat)) := by
  cases C with
  | nil => exact absurd rfl h
  | cons a l => exact atI_nat (j := 0) (show (vi (a :: l))[0]? = some (V.int (a : Nat)) from rfl)
theorem erase_map {α β : Type} (f : α → β) : ∀ (l : List α) (j : Nat), (l.map f).eraseIdx j = (l.eraseIdx j).map f
  | [], _ => rfl
  | _ :: _, 0 => rfl
  | x :: l, j + 1 => by
    show f x :: (l.map f).eraseIdx j = f x :: (l.eraseIdx j).map f
    rw [erase_map f l j]
def spFch (A : Ad) : Sp := fun vs H Q _ => ∃ (r x n w : Nat) (ks : List Int), vs = [.ref r, .ref x] ∧ TreeAt A.C H x n w ∧ Sq H r (ks.map V.int) ∧ ks.length = n ∧ n ≤ 12 ∧ LamX.Tabs (TT A) H ∧
  ∀ (H' : Hp) (q : Addr) (xs : List V) (CH : List (List Nat)), LamX.ExtN H H' → LamX.Tabs (TT A) H' → H' q = some (.lst xs) → RowsAt H' xs (CH.map zI) → FcR n w ks n CH → Q (.ref q) H'
theorem ok_fch (T : Tx K mg A) (TB : LamX.TabB base mg A.c_falling_chains A.P_falling_chains) : FnOk P w K mg base CX0 10 A.f_falling_chains A.d_falling_chains ["row", "tree"] (spFch A) := by
  obtain ⟨oc, od, kV, doc, pm, an, ct, osl, ed, lk, hcd⟩ := T.L_falling_chains
  rw [ed] at lk ⊢
  refine fn_of lk hcd sc_falling_chains (fun vs H Q E h => ?_) (fun B outer s H vs Q E hr h => ?_)
  · obtain ⟨r, x, n, w, ks, rfl, _⟩ := h
    rfl
  · obtain ⟨r, x, n, w1, ks, rfl, ta, hrow, hkl, hn, hT, q⟩ := h
    have nd := sc_falling_chains.nd
    have hu : (B.deeper (envOfC "falling_chains" (defScope s_falling_chains) s.heap.objs.size A.f_falling_chains (.ref A.c_falling_chains))).units + 64 < cLine := hr.units
    have hw := ta.hw
    obtain ⟨dx, l, g1, g2⟩ := id ta.ob
    have noS : (tf n w1 l).lookup ("subtree" : Str) = none := tf_no _ _ _ (by decide +kernel) (by decide +kernel) (by decide +kernel)
    refine ⟨_, PSs.nox (pss_cons (ps_set (i := 2) nd rfl (Or.inl rfl) (pe_lst pa_nil))
      (C8.pss_cut (ps_for PassesOwn.never rfl (pi_reversed (by rfl) T.g_reversed (pa_cons (pe_callTy (call_listO T.D_t___iter__ (ok_iter T) (b_iter T) T.D_t___len__ (ok_len T) (b_len T) (hr.mono (by decide))) (by rfl) T.g_list (by decide +kernel) (pa_cons (pv 1) pa_nil)) pa_nil)) (pg_name (i := 3) nd rfl (Or.inr rfl)) (C8.pss_cut (ps_set (i := 4) nd rfl (Or.inr rfl) (pe_meth (pv 1) T.cT T.M_t_subtree (ok_sub T) (hr.mono (by decide)) (b_sub T) .nil pass0 (pa_cons (pv 3) pa_nil)))
      (C8.pss_cut (ps_setLc (i := 5) (own := [("chain", 7)]) (g := gName 7) rfl nd rfl rfl (sw_true rfl rfl rfl (by decide +kernel)) (pi_list (pv 2)) (blkOk_by (own := [("chain", 7)]) (N := ["row", "tree", "chains", "place", "below", "lesser", "longer", "chain"]) (sc := defScope s_falling_chains) (by decide +kernel)) (fun _ _ _ _ _ => pg_name (i := 7) nd rfl (Or.inl rfl)) (fun _ _ _ _ _ => pts_one (PW.pt (pw_and (pt_cmpR (r := L2.rIn K false) op_in_seq (pe_ix (r := rIxT K) ix_tup (pv 7) pe_int (fun _ _ => rfl)) (pv 4) (by rfl)) (pw_and1 (pt_cmpR op_lt (pe_ix (r := rIx K) ix_seq (pv 0) (pe_ix (r := rIxT K) ix_tup (pv 7) pe_int (fun _ _ => rfl)) (fun _ _ => rfl)) (pe_ix (r := rIx K) ix_seq (pv 0) (pv 3) (fun _ _ => rfl)) (nomark _)))))) (fun _ _ _ _ _ => (pv 7)))
      (pss_one (ps_if (pt_truL (K := K) rfl (pv 5) (fun _ => rfl)) (C8.pss_cut (ps_set (i := 6) nd rfl (Or.inl rfl) (Lm.pe_maxlam (T := TT A) (i := 7) (x := "chain") (k := 7) false (by rfl) T.g_max (pv 5) (hr.mono (by decide)) hr.hd TB rfl (List.mem_singleton.mpr rfl) (fun p hp _ => by rw [List.mem_singleton.mp hp]; rfl) (Lm.lamP_by (sc := defScope s_falling_chains) (by decide +kernel)) rfl nd rfl (fun _ _ _ _ _ _ => rfl) (fun A2 outer2 s2 H2 f2 c2 hr2 => (pe_ix (r := rIx K) ix_seq (pv 0) (pe_ix (r := rIxT K) ix_tup (pv 7) pe_int (fun _ _ => rfl)) (fun _ _ => rfl)))))
      (pss_cons (ps_expr (pe_bm PySem.F.plainAttrs_list PySem.F.slot_list_remove PySem.F.type_list_remove (Rm.mt_removeD hu) (pv 2) (pa_cons (pv 6) pa_nil)))
      (pss_one (ps_expr (pe_bm PySem.F.plainAttrs_list PySem.F.slot_list_append PySem.F.type_list_append mt_append (pv 2) (pa_cons (pe_op (r := rCatA K) op_catA (pe_tup (pa_cons (pv 3) pa_nil)) (pv 6)) pa_nil)))))) (pss_one (ps_expr (pe_bm PySem.F.plainAttrs_list PySem.F.slot_list_append PySem.F.type_list_append mt_append (pv 2) (pa_cons (pe_tup (pa_cons (pv 3) pa_nil)) pa_nil)))))))))
      (pss_one (ps_ret (pv 2))))), ?_⟩
    refine ⟨Nat.zero_le _, fun D nD => ?_⟩
    have fc0 : FcS A H D [] (upd H D (.lst [])) := ⟨extN_of (Same.up nD), hT.ext (Same.up nD), nD, [], upd_same, .nil⟩
    refine ⟨fun σ' H' => ∃ (x3 x4 x5 x6 : Option V) (CH : List (List Nat)), σ' = [some (.ref r), some (.ref x), some (.ref D), x3, x4, x5, x6, none] ∧ FcS A H D CH H' ∧ FcR n w1 ks n CH, ?_, ?_⟩
    · have sD := Same.up (o := .lst []) nD
      refine ⟨_, rfl, x, dx, _, l, pl n, rfl, sD _ _ g1, tf_pl _ _ _, SqT.of (sD _ _ g2), by rw [pl_len]; omega, ⟨x, n, w1, rfl, ta.same sD, n, rfl, by omega, rfl⟩, fun c nc => ?_⟩
      have fc1 := fc0.same (Same.up (o := .lst (pl n)) nc)
      have ec := upd_same (H := upd H D (.lst [])) (a := c) (o := .lst (pl n))
      have hcD : c ≠ D := fun z => by rw [z, upd_same] at nc; cases nc
      generalize upd (upd H D (.lst [])) c (.lst (pl n)) = H1 at fc1 ec
      refine ⟨c, _, rfl, SqL.of ec, RT.for_Itv (fun i σ' H' => ∃ (x3 x4 x5 x6 : Option V) (CH : List (List Nat)), σ' = [some (.ref r), some (.ref x), some (.ref D), x3, x4, x5, x6, none] ∧ FcS A H D CH H' ∧ FcR n w1 ks i CH ∧ H' c = some (.lst (pl n)) ∧ i ≤ n)
        ⟨none, none, none, none, [], rfl, fc1, rfl, ec, Nat.zero_le _⟩ (fun i σ' H' ⟨_, _, _, _, _, _, _, _, e, _⟩ => SqL.of e) ?_ ?_⟩
      · rintro i y σ' H2 hi hx ⟨x3, x4, x5, x6, CH, rfl, fc2, hR, ec2, hi2⟩
        rw [pl_len] at hi hx
        obtain ⟨_, rfl⟩ := pl_at hx
        have hpn : n - 1 - i < n := by omega
        have ok := fc_ok hw hn i CH (by omega) hR
        have hjj : n - i = (n - 1 - i) + 1 := by omega
        rw [hjj] at ok
        have hst : ∀ CH', StepR w1 ks (n - 1 - i) CH CH' → FcR n w1 ks (i + 1) CH' := fun CH' q => ⟨CH, hR, q⟩
        generalize n - 1 - i = pp at *
        have hlen := ok.lens
        have ta2 := ta.exN fc2.e
        have g12 := fc2.e _ _ g1 (fun _ z => nomatch z)
        refine ⟨fun σ' H' => ∃ b : Addr, σ' = [some (.ref r), some (.ref x), some (.ref D), some (.int pp), some (.ref b), x5, x6, none] ∧ Same H2 H' ∧ H' b = some (.tup (vi (subL n w1 pp))), ?_, ?_⟩
        · exact ⟨_, rfl, x, dx, _, rfl, g12, noS, _, rfl, x, n, w1, pp, rfl, ta2, hpn, fun H3 b s3 nb eb => ⟨b, rfl, s3, eb⟩⟩
        rintro σ' H3 ⟨b, rfl, s3, eb⟩
        have fc3 := fc2.same s3
        have ec3 := s3 _ _ ec2
        obtain ⟨xs, eD, rx⟩ := fc3.a
        have row3 := hrow.ext fc3.e
        refine ⟨fun σ' H' => ∃ (F : Addr) (zs : List V), σ' = [some (.ref r), some (.ref x), some (.ref D), some (.int pp), some (.ref b), some (.ref F), x6, none] ∧ Same H3 H' ∧ H' F = some (.lst zs) ∧ RowsAt H' zs ((lesL w1 ks pp CH).map zI), ?_, ?_⟩
        · refine ⟨_, rfl, D, rfl, ⟨_, SqL.of eD⟩, fun D2 nD2 => ?_⟩
          refine lc_it (walk_list (xs := xs)) (fun j H' => AccR H3 D2 ((((CH.take j).filter (lesB w1 ks pp))).map zI) H') (AccR.start nD2) (fun j H' _ a => SqL.of (a.s _ _ eD)) ?_ ?_
          · rintro j y H5 H6 hj a ⟨rfl, hy⟩
            obtain ⟨hj2, t, rfl, et⟩ := RowsAt.get rx hy
            rw [List.length_map] at hj2
            rw [List.getElem_map, zI_vi] at et
            have et6 := a.s _ _ et
            have hC := List.getElem_mem hj2
            rw [List.take_succ_eq_append_getElem hj2, List.filter_append]
            have hfl := List.length_filter_le (lesB w1 ks pp) (CH.take j)
            rw [List.length_take] at hfl
            have hl1 := hlen.1
            generalize CH[j] = C at *
            have hhd := ok.mem hC (hd_mem (ok.ne C hC))
            have hat := hd_at (ok.ne C hC)
            have row6 := row3.ext (extN_of a.s)
            refine ⟨rfl, _, rfl, t, _, _, V.int (hdC C : Nat), rfl, rfl, SqT.of et6, hat, _, rfl, b, _, rfl, .inr (SqT.of (a.s _ _ eb)), rfl, vi_flat _, _, rfl, ?_⟩
            rw [if_neg Bool.false_ne_true, mem_vi]
            by_cases hin : hdC C ∈ subL n w1 pp
            · rw [decide_eq_true hin]
              refine iteT ⟨_, rfl, _, rfl, t, _, _, V.int (hdC C : Nat), rfl, rfl, SqT.of et6, hat, ixS row6 (key_at (show hdC C < ks.length by omega)) ⟨_, rfl, _, rfl, ixS row6 (key_at (show pp < ks.length by omega)) ⟨_, _, rfl, rfl, _, rfl, ?_⟩⟩⟩
              by_cases hlt : keyAt ks (hdC C) < keyAt ks pp
              · rw [decide_eq_true hlt]
                refine iteT ⟨_, rfl, ?_⟩
                rw [List.filter_cons_of_pos (by unfold lesB; rw [decide_eq_true (sub_mem.mp hin).2, decide_eq_true hlt]; rfl), List.filter_nil, List.map_append]
                exact a.push (x := .ref t) (l := zI C) ⟨t, rfl, by rw [zI_vi]; exact et6⟩ (by rw [List.length_map, sizeLine_eq]; omega)
              · rw [decide_eq_false hlt]
                refine iteF ?_
                rw [List.filter_cons_of_neg (by unfold lesB; rw [decide_eq_false hlt, Bool.and_false]; exact Bool.false_ne_true), List.filter_nil, List.append_nil]
                exact a
            · rw [decide_eq_false hin]
              refine iteF (iteF ?_)
              rw [List.filter_cons_of_neg (by unfold lesB; rw [decide_eq_false (fun z => hin (sub_mem.mpr ⟨hhd.2, z⟩)), Bool.false_and]; exact Bool.false_ne_true), List.filter_nil, List.append_nil]
              exact a
          · intro H5 a
            have hxl : xs.length = CH.length := by rw [Paired.length rx, List.length_map]
            rw [hxl, List.take_length] at a
            obtain ⟨zs, ez, rz⟩ := a.a
            exact ⟨D2, zs, rfl, a.s, ez, rz⟩
        rintro σ' H4 ⟨F, zs, rfl, s4, eF, rz⟩
        have fc4 := fc3.same s4
        have ec4 := s4 _ _ ec3
        have hzl : zs.length = (lesL w1 ks pp CH).length := by rw [Paired.length rz, List.length_map]
        have hcD2 : c ≠ D := hcD
        refine ⟨_, rfl, !zs.isEmpty, .inl ⟨_, SqL.of eF, rfl⟩, ?_⟩
        by_cases h0 : lesL w1 ks pp CH = []
        · rw [h0] at hzl
          rw [List.length_eq_zero_iff.mp hzl]
          refine iteF ?_
          obtain ⟨xs4, eD4, rx4⟩ := fc4.a
          refine ⟨_, rfl, .inl ⟨rfl, _, SqL.of eD4⟩, _, rfl, by show 1 ≤ sizeLine; decide, fun t nt => ?_⟩
          have st := Same.up (o := .tup [V.int (pp : Nat)]) nt
          have hx4 : xs4.length = CH.length := by rw [Paired.length rx4, List.length_map]
          have r5 : RowsAt (upd H4 t (.tup [V.int (pp : Nat)])) (xs4 ++ [.ref t]) ((CH ++ [[pp]]).map zI) := by
            rw [List.map_append]
            exact RowsAt.push (x := .ref t) (l := zI [pp]) ⟨t, rfl, upd_same⟩ (rx4.same st)
          refine ⟨D, xs4, _, rfl, rfl, st _ _ eD4, by rw [hx4, sizeLine_eq]; omega, _, _, _, _, CH ++ [[pp]], rfl, (fc4.same st).set (st _ _ eD4) r5, hst _ (.inl ⟨h0, rfl⟩), ?_, by omega⟩
          rw [upd_ne hcD]
          exact st _ _ ec4
        · have hpos : 0 < zs.length := by
            rw [hzl]
            exact List.length_pos_iff.mpr h0
          rw [show zs.isEmpty = false by cases zs with | nil => cases hpos | cons => rfl]
          refine iteT ?_
          have row4 := row3.ext (extN_of s4)
          refine ⟨fun σ' H' => ∃ (L : List Nat) (t : Addr), σ' = [some (.ref r), some (.ref x), some (.ref D), some (.int pp), some (.ref b), some (.ref F), some (.ref t), none] ∧ L ∈ lesL w1 ks pp CH ∧ (∀ M ∈ lesL w1 ks pp CH, keyAt ks (hdC M) ≤ keyAt ks (hdC L)) ∧ LamX.ExtN H4 H' ∧ LamX.Tabs (TT A) H' ∧ H' t = some (.tup (vi L)), ?_, ?_⟩
          · refine ⟨_, rfl, F, zs, fun j => keyAt ks (hdC ((lesL w1 ks pp CH).getD j [])), rfl, SqL.of eF, hpos, fc4.t, fun H5 e5 t5 => ⟨fun j y H' hy e6 t6 => ?_, fun j y H' hm hy e6 t6 => ?_⟩⟩
            · obtain ⟨hj, t, rfl, et⟩ := rz.get hy
              rw [List.length_map] at hj
              rw [List.getElem_map, zI_vi] at et
              have hC := lesL_mem.mp (List.getElem_mem hj)
              have hge : (lesL w1 ks pp CH).getD j [] = (lesL w1 ks pp CH)[j] := by rw [List.getD_eq_getElem?_getD, List.getElem?_eq_getElem hj]; rfl
              show tOp _ _ _ _ _ fun k H'' => k = V.int (keyAt ks (hdC ((lesL w1 ks pp CH).getD j []))) ∧ _
              rw [hge]
              generalize (lesL w1 ks pp CH)[j] = C at *
              have hhd := ok.mem hC.1 (hd_mem (ok.ne C hC.1))
              have et' := (e5.trans e6) _ _ et (fun _ z => nomatch z)
              exact ⟨_, rfl, _, rfl, t, _, _, V.int (hdC C : Nat), rfl, rfl, SqT.of et', hd_at (ok.ne C hC.1), ixS (row4.ext (e5.trans e6)) (key_at (show hdC C < ks.length by omega)) ⟨rfl, extN_of (Same.refl _), t6⟩⟩
            · obtain ⟨hj, t, rfl, et⟩ := rz.get hy
              rw [List.length_map] at hj
              rw [List.getElem_map, zI_vi] at et
              have hC := List.getElem_mem hj
              have hge : ∀ (m : Nat) (hm : m < (lesL w1 ks pp CH).length), (lesL w1 ks pp CH).getD m [] = (lesL w1 ks pp CH)[m] := fun m hm => by rw [List.getD_eq_getElem?_getD, List.getElem?_eq_getElem hm]; rfl
              refine ⟨(lesL w1 ks pp CH)[j], t, rfl, hC, fun M hM => ?_, e5.trans e6, t6, (e5.trans e6) _ _ et (fun _ z => nomatch z)⟩
              obtain ⟨m, hm2, rfl⟩ := List.getElem_of_mem hM
              have h3 : -keyAt ks (hdC ((lesL w1 ks pp CH).getD j [])) ≤ -keyAt ks (hdC ((lesL w1 ks pp CH).getD m [])) := hm.2.1 m (by rw [hzl]; exact hm2)
              rw [hge j hj, hge m hm2] at h3
              omega
          rintro σ' H5 ⟨L, t, rfl, hL, hmax, e45, t5, et⟩
          have fc5 := fc4.ext e45 t5
          have ec5 := e45 _ _ ec4 (fun _ z => nomatch z)
          obtain ⟨xs5, eD5, rx5⟩ := fc5.a
          have hx5 : xs5.length = CH.length := by rw [Paired.length rx5, List.length_map]
          have hLC := (lesL_mem.mp hL).1
          have hLl := hlen.2 L hLC
          have hl1 := hlen.1
          obtain ⟨j, hj1, hj2⟩ := find_at hLC
          have hjl : (CH.map zI)[j]? = some (zI L) := by rw [List.getElem?_map, hj1]; rfl
          have hjn : ∀ m, m < j → (CH.map zI)[m]? ≠ some (zI L) := fun m hm z => by
            rw [List.getElem?_map] at z
            cases hq : CH[m]? with
            | none => rw [hq] at z; cases z
            | some M =>
              rw [hq] at z
              have z : zI M = zI L := by injection z
              exact hj2 m hm (by rw [hq, zI_inj z])
          have rt : RowAt H5 (.ref t) (zI L) := ⟨t, rfl, by rw [zI_vi]; exact et⟩
          refine ⟨_, rfl, .inl ⟨rfl, _, SqL.of eD5⟩, _, rfl, D, xs5, (CH.map zI).map rowD, .ref t, rowD (zI L), j, rfl, rfl, eD5, rowsD_dp rx5, rowD_dp rt, rowsD_plain _, L2.plain_ints _, ?_, place_at hjl hjn, ?_⟩
          · have h1 : (rowD (zI L)).depth ≤ 1 := by simp [PyData.depth, PySem.W.depth_ints]
            exact Nat.le_trans h1 (by decide)
          have hej := erase_at hj1 hj2
          have r6 : RowsAt H5 (xs5.eraseIdx j) ((CH.erase L).map zI) := by
            rw [hej, ← erase_map]
            exact rows_erase j rx5
          have fc6 := fc5.set eD5 r6
          have ec6 : upd H5 D (.lst (xs5.eraseIdx j)) c = some (.lst (pl n)) := by rw [upd_ne hcD]; exact ec5
          have eD6 := upd_same (H := H5) (a := D) (o := .lst (xs5.eraseIdx j))
          have htD : t ≠ D := fun z => by rw [z, eD5] at et; cases et
          have et6 : upd H5 D (.lst (xs5.eraseIdx j)) t = some (.tup (vi L)) := by rw [upd_ne htD]; exact et
          have r66 := r6.put (ys := xs5.eraseIdx j) eD5
          generalize upd H5 D (.lst (xs5.eraseIdx j)) = H6 at fc6 ec6 eD6 et6 r66 ⊢
          refine ⟨_, rfl, .inl ⟨rfl, _, SqL.of eD6⟩, _, rfl, by show 1 ≤ sizeLine; decide, fun u nu => ?_⟩
          have su := Same.up (o := .tup [V.int (pp : Nat)]) nu
          refine ⟨_, rfl, catTup upd_same (su _ _ et6) (by rw [vi_len]; show 1 + _ ≤ 1000; omega) fun H7 c7 s7 e7 => ?_⟩
          have s67 := su.trans s7
          have hel := List.length_eraseIdx_le xs5 j
          have r7 : RowsAt H7 (xs5.eraseIdx j ++ [.ref c7]) ((CH.erase L ++ [pp :: L]).map zI) := by
            rw [List.map_append]
            exact RowsAt.push (x := .ref c7) (l := zI (pp :: L)) ⟨c7, rfl, by rw [zI_vi]; exact e7⟩ (r66.same s67)
          refine ⟨D, xs5.eraseIdx j, _, rfl, rfl, s67 _ _ eD6, by rw [sizeLine_eq]; omega, _, _, _, _, CH.erase L ++ [pp :: L], rfl, (fc6.same s67).set (s67 _ _ eD6) r7, hst _ (.inr ⟨L, hL, hmax, rfl⟩), ?_, by omega⟩
          rw [upd_ne hcD]
          exact s67 _ _ ec6
      · rintro σ' H2 ⟨x3, x4, x5, x6, CH, rfl, fc2, hR, ec2, hi2⟩
        rw [pl_len] at hR
        exact ⟨x3, x4, x5, x6, CH, rfl, fc2, hR⟩
    rintro σ' H2 ⟨x3, x4, x5, x6, CH, rfl, fc2, hR⟩
    obtain ⟨xs, e2, r2⟩ := fc2.a
    exact ⟨_, rfl, q H2 D xs CH fc2.e fc2.t e2 r2 hR⟩
theorem b_fch (T : Tx K mg A) : L2.Binds K A.d_falling_chains ["row", "tree"] [] := T.F_falling_chains.binds fun _ _ _ _ _ _ us hl => match us, hl with | [_, _], _ => rfl
def spIM (C : Addr) : Sp := fun vs H Q _ => ∃ (p dx a0 a1 a2 : Nat) (x0 : List Int) (X : List Nat) (CH : List (List Nat)) (xs : List V), vs = [.ref p, .ref a0, .ref a1, .ref a2] ∧ H p = some (.ins C dx []) ∧ Sq H a0 (x0.map V.int) ∧ Sq H a1 (vi X) ∧ H a2 = some (.lst xs) ∧ RowsAt H xs (CH.map zI) ∧ CH.length ≤ 12 ∧
  ∀ (H' : Hp), (∀ b o, H b = some o → b ≠ p → H' b = some o) → AtM C H' p x0 X CH → Q .non H'
theorem ok_iM (T : Tx K mg A) : FnOk P w K mg base CX0 1 A.f_m___init__ A.d_m___init__ ["self", "row", "kept", "chains"] (spIM A.CM) := by
  refine T.F_m___init__.ok sc_m___init__ (fun vs H Q E h => ?_) (fun cdv B outer s H vs Q E hr h => ?_)
  · obtain ⟨p, dx, a0, a1, a2, x0, X, CH, xs, rfl, _⟩ := h
    rfl
  · obtain ⟨p, dx, a0, a1, a2, x0, X, CH, xs, rfl, hp, ha0, ha1, ha2, hrx, hCl, q⟩ := h
    have nd := sc_m___init__.nd
    refine ⟨_, (pss_cons (ps_fld (pv 0) (pe_callTy (r := rTupK K) call_tupleK (by rfl) T.g_tuple (by decide +kernel) (pa_cons (pv 1) pa_nil)) rfl)
      (pss_cons (ps_fld (pv 0) (pe_callTy (r := rTupK K) call_tupleK (by rfl) T.g_tuple (by decide +kernel) (pa_cons (pv 2) pa_nil)) rfl)
      (pss_one (ps_fld (pv 0) (pe_lc (own := [("chain", 4)]) (g := gName 4) (tt := tYes) rfl nd (pi_list (pv 3)) (blkOk_by (own := [("chain", 4)]) (N := ["self", "row", "kept", "chains", "chain"]) (sc := defScope s_m___init__) (by decide +kernel)) (fun _ _ _ _ _ => pg_name (i := 4) nd rfl (Or.inl rfl)) (fun _ _ _ _ _ => pts_nil) (fun _ _ _ _ _ => (pe_callTy (r := rTupK K) call_tupleK (by rfl) T.g_tuple (by decide +kernel) (pa_cons (pv 4) pa_nil)))) rfl)))), ?_⟩
    refine ⟨_, rfl, ?_⟩
    unfold tNil
    refine tupQ ha0 fun G0 t0 s0 e0 => ?_
    have hp := s0 _ _ hp
    have fr : ∀ b o, H b = some o → b ≠ p → G0 b = some o := fun b o e _ => s0 _ _ e
    have ha1 : Sq G0 a1 (vi X) := ha1.imp (s0 _ _) (s0 _ _)
    have ha2 := s0 _ _ ha2
    have hrx := hrx.same s0
    refine ⟨_, rfl, p, A.CM, dx, _, rfl, hp, T.cTM, T.mRow, (by show 0 < 1000; decide), ?_⟩
    have fr : ∀ b o, H b = some o → b ≠ p → (upd G0 p (.ins A.CM dx (putF "row" (.ref t0) ([])))) b = some o := fun b o e n => by rw [upd_ne n]; exact fr b o e n
    have e0 : (upd G0 p (.ins A.CM dx (putF "row" (.ref t0) ([])))) t0 = _ := (upd_ne (ne_of e0 hp (by intro z; cases z))).trans e0
    have ha1 : Sq (upd G0 p (.ins A.CM dx (putF "row" (.ref t0) ([])))) a1 (vi X) := ha1.imp (fun z => (upd_ne (ne_of z hp (by intro z; cases z))).trans z) (fun z => (upd_ne (ne_of z hp (by intro z; cases z))).trans z)
    have ha2 := (upd_ne (o := .ins A.CM dx (putF "row" (.ref t0) ([]))) (ne_of ha2 hp (by intro z; cases z))).trans ha2
    have hrx := rows_upd (o2 := .ins A.CM dx (putF "row" (.ref t0) ([]))) hp (fun _ z => nomatch z) hrx
    have hp : (upd G0 p (.ins A.CM dx (putF "row" (.ref t0) ([])))) p = _ := upd_same
    generalize upd G0 p (.ins A.CM dx (putF "row" (.ref t0) ([]))) = U0 at fr hp e0 ha1 ha2 hrx
    refine ⟨_, rfl, ?_⟩
    refine tupQ ha1 fun G1 t1 s1 e1 => ?_
    have hp := s1 _ _ hp
    have fr : ∀ b o, H b = some o → b ≠ p → G1 b = some o := fun b o e n => s1 _ _ (fr b o e n)
    have e0 := s1 _ _ e0
    have ha2 := s1 _ _ ha2
    have hrx := hrx.same s1
    refine ⟨_, rfl, p, A.CM, dx, _, rfl, hp, T.cTM, T.mKept, (by show 1 < 1000; decide), ?_⟩
    have fr : ∀ b o, H b = some o → b ≠ p → (upd G1 p (.ins A.CM dx (putF "kept" (.ref t1) (putF "row" (.ref t0) ([]))))) b = some o := fun b o e n => by rw [upd_ne n]; exact fr b o e n
    have e0 : (upd G1 p (.ins A.CM dx (putF "kept" (.ref t1) (putF "row" (.ref t0) ([]))))) t0 = _ := (upd_ne (ne_of e0 hp (by intro z; cases z))).trans e0
    have e1 : (upd G1 p (.ins A.CM dx (putF "kept" (.ref t1) (putF "row" (.ref t0) ([]))))) t1 = _ := (upd_ne (ne_of e1 hp (by intro z; cases z))).trans e1
    have ha2 := (upd_ne (o := .ins A.CM dx (putF "kept" (.ref t1) (putF "row" (.ref t0) ([])))) (ne_of ha2 hp (by intro z; cases z))).trans ha2
    have hrx := rows_upd (o2 := .ins A.CM dx (putF "kept" (.ref t1) (putF "row" (.ref t0) ([])))) hp (fun _ z => nomatch z) hrx
    have hp : (upd G1 p (.ins A.CM dx (putF "kept" (.ref t1) (putF "row" (.ref t0) ([]))))) p = _ := upd_same
    generalize upd G1 p (.ins A.CM dx (putF "kept" (.ref t1) (putF "row" (.ref t0) ([])))) = U1 at fr hp e0 e1 ha2 hrx
    refine ⟨_, rfl, a2, rfl, ⟨_, SqL.of ha2⟩, fun D nD => ?_⟩
    refine lc_it (walk_list (xs := xs)) (fun j H' => AccR U1 D ((CH.take j).map zI) H') (AccR.start nD) (fun j H' _ a => SqL.of (a.s _ _ ha2)) ?_ ?_
    · rintro j y H5 H6 hj a ⟨rfl, hy⟩
      obtain ⟨hj2, t, rfl, et⟩ := hrx.get hy
      rw [List.length_map] at hj2
      rw [List.getElem_map, zI_vi] at et
      rw [List.take_succ_eq_append_getElem hj2, List.map_append]
      have hl : ((CH.take j).map zI).length < sizeLine := by rw [List.length_map, List.length_take, sizeLine_eq]; omega
      generalize CH[j] = C at *
      refine ⟨rfl, iteT (B := AccR U1 D ((CH.take j).map zI ++ [C].map zI) H6) ⟨_, rfl, ?_⟩⟩
      refine tupQ (.inr (a.s _ _ et)) fun H7 t7 s7 e7 => ?_
      exact (a.same s7).push (x := .ref t7) (l := zI C) ⟨t7, rfl, by rw [zI_vi]; exact e7⟩ hl
    · intro G2 a
      have hxl : xs.length = CH.length := by rw [Paired.length hrx, List.length_map]
      rw [hxl, List.take_length] at a
      obtain ⟨zs, ez, rz⟩ := a.a
      have hp := a.s _ _ hp
      have fr : ∀ b o, H b = some o → b ≠ p → G2 b = some o := fun b o e n => a.s _ _ (fr b o e n)
      have e0 := a.s _ _ e0
      have e1 := a.s _ _ e1
      refine ⟨_, rfl, p, A.CM, dx, _, rfl, hp, T.cTM, T.mChains, (by show 2 < 1000; decide), ?_⟩
      refine q _ (fun b o e n => by rw [upd_ne n]; exact fr b o e n) ⟨dx, t0, t1, D, zs, upd_same, ?_, ?_, ?_, rows_upd hp (fun _ z => nomatch z) rz⟩
      · exact (upd_ne (ne_of e0 hp (by intro z; cases z))).trans e0
      · exact (upd_ne (ne_of e1 hp (by intro z; cases z))).trans e1
      · exact (upd_ne (ne_of ez hp (by intro z; cases z))).trans ez
theorem b_iM (T : Tx K mg A) : L2.Binds K A.d_m___init__ ["self", "row", "kept", "chains"] [] := T.F_m___init__.binds fun _ _ _ _ _ _ us hl => match us, hl with | [_, _, _, _], _ => rfl
def spMend (A : Ad) : Sp := fun vs H Q _ => ∃ (r w : Nat) (ks : List Int), vs = [.ref r, .int w] ∧ (1 ≤ w ∧ w ≤ 4) ∧ H r = some (.lst (ks.map V.int)) ∧ ks.length ≤ 12 ∧ (∀ k ∈ ks, -1000000000 ≤ k ∧ k ≤ 1000000000) ∧ LamX.Tabs (TT A) H ∧
  ∀ (H' : Hp) (p : Addr) (X : List Nat) (m : Int) (CH : List (List Nat)), LamX.ExtN H H' → LamX.Tabs (TT A) H' → X ∈ stkL w ks ks.length → (∀ Y ∈ stkL w ks ks.length, Y.length ≤ X.length) → (∀ i, i < ks.length → m ≤ keyAt ks i) → (1 ≤ ks.length → m ∈ ks) →
    FcR ks.length w ks ks.length CH → AtM A.CM H' p (mrL w ks X m ks.length) X CH → Q (.ref p) H'
theorem stk_one (w : Nat) (ks : List Int) : ∀ i, 0 < (stkL w ks i).length
  | 0 => by show 0 < 1; decide
  | i + 1 => by
    have := stk_one w ks i
    unfold stkL
    rw [List.length_append]
    omega
theorem ok_mend (T : Tx K mg A) (TB : LamX.TabB base mg A.c_falling_chains A.P_falling_chains) : FnOk P w K mg base CX0 11 A.f_mend A.d_mend ["row", "arms"] (spMend A) := by
  obtain ⟨mo, ko⟩ := kb_of T
  refine T.F_mend.ok sc_mend (fun vs H Q E h => ?_) (fun cdv B outer s H vs Q E hr h => ?_)
  · obtain ⟨r, w, ks, rfl, _⟩ := h
    rfl
  · obtain ⟨r, w1, ks, rfl, hw, er, hn, hkb, hT, q⟩ := h
    have nd := sc_mend.nd
    refine ⟨_, PSs.nox (C8.pss_cut (ps_set (i := 2) nd rfl (Or.inl rfl) (pe_cmethK (pe_glob (v := .ref A.C) (by rfl) T.mC (relR _)) T.cr T.cof (ok_of T) (hr.mono (by decide)) ko pass0 (pa_cons (pv 0) pa_nil) (pk_cons (pv 1) pk_nil)))
      (C8.pss_cut (ps_set (i := 3) nd rfl (Or.inl rfl) (Ml.pe_maxlen (by rfl) T.g_max (by rfl) T.g_len (pe_call (ok_stk T) (hr.mono (by decide)) (by rfl) T.m_sets_to_keep T.F_sets_to_keep.kp (b_stk T) .nil pass0 (pa_cons (pv 0) (pa_cons (pv 2) pa_nil))) hr.hd))
      (pss_one (ps_ret (pe_make T.mkCM (ok_iM T) (hr.mono (by decide)) (by rfl) T.mCM (b_iM T) .nil pass0 (pa_cons (pe_call (ok_mrow T) (hr.mono (by decide)) (by rfl) T.m_mended_row T.F_mended_row.kp (b_mrow T) .nil pass0 (pa_cons (pv 0) (pa_cons (pv 3) (pa_cons (pv 2) pa_nil)))) (pa_cons (pv 3) (pa_cons (pe_call (ok_fch T TB) (hr.mono (by decide)) (by rfl) T.m_falling_chains T.F_falling_chains.kp (b_fch T) .nil pass0 (pa_cons (pv 0) (pa_cons (pv 2) pa_nil))) pa_nil)))))))), ?_⟩
    refine ⟨fun σ' H' => ∃ x : Addr, σ' = [some (.ref r), some (.int w1), some (.ref x), none] ∧ Same H H' ∧ TreeAt A.C H' x ks.length w1, ?_, ?_⟩
    · exact ⟨rfl, _, rfl, _, rfl, rfl, rfl, r, w1, ks, rfl, hw, .inl er, hn, hkb, fun H2 x s2 p0 t2 => ⟨x, rfl, s2, t2⟩⟩
    rintro σ' H2 ⟨x, rfl, s2, t2⟩
    have er2 := s2 _ _ er
    refine ⟨fun σ' H' => ∃ (k : Addr) (X : List Nat), σ' = [some (.ref r), some (.int w1), some (.ref x), some (.ref k)] ∧ Same H2 H' ∧ H' k = some (.tup (vi X)) ∧ X ∈ stkL w1 ks ks.length ∧ ∀ Y ∈ stkL w1 ks ks.length, Y.length ≤ X.length, ?_, ?_⟩
    · refine ⟨_, rfl, _, rfl, r, x, ks.length, w1, ks, rfl, t2, .inl er2, rfl, hn, fun H3 z xs s3 ez rz => ?_⟩
      have hxl : xs.length = (stkL w1 ks ks.length).length := by rw [Paired.length rz, List.length_map]
      refine ⟨z, xs, fun j => ((stkL w1 ks ks.length).getD j []).length, rfl, SqL.of ez, by rw [hxl]; exact stk_one w1 ks _, fun j y hy => ?_, fun j y hm hy => ?_⟩
      · obtain ⟨hj, t, rfl, et⟩ := rz.get hy
        rw [List.length_map] at hj
        rw [List.getElem_map, zI_vi] at et
        exact ⟨t, _, rfl, SqT.of et, by show ((stkL w1 ks ks.length).getD j []).length = _; rw [vi_len, List.getD_eq_getElem?_getD, List.getElem?_eq_getElem hj]; rfl⟩
      · obtain ⟨hj, t, rfl, et⟩ := rz.get hy
        rw [List.length_map] at hj
        rw [List.getElem_map, zI_vi] at et
        refine ⟨t, _, rfl, s3, et, List.getElem_mem hj, fun Y hY => ?_⟩
        obtain ⟨i, hi, rfl⟩ := List.getElem_of_mem hY
        have hge : ∀ (m : Nat) (hm : m < (stkL w1 ks ks.length).length), (stkL w1 ks ks.length).getD m [] = (stkL w1 ks ks.length)[m] := fun m hm => by rw [List.getD_eq_getElem?_getD, List.getElem?_eq_getElem hm]; rfl
        have h3 : -(((stkL w1 ks ks.length).getD j []).length : Int) ≤ -(((stkL w1 ks ks.length).getD i []).length : Int) := hm.2.1 i (by rw [hxl]; exact hi)
        rw [hge j hj, hge i hi] at h3
        omega
    rintro σ' H3 ⟨k, X, rfl, s3, ek, hX, hXm⟩
    refine ⟨_, rfl, _, rfl, _, rfl, r, k, x, ks.length, w1, ks, X, rfl, s3 _ _ er2, ek, t2.same s3, rfl, hn, fun H4 z4 m s4 hm1 hm2 e4 => ?_⟩
    have s24 := s3.trans s4
    refine ⟨_, rfl, _, rfl, _, rfl, r, x, ks.length, w1, ks, rfl, t2.same s24, .inl (s24 _ _ er2), rfl, hn, hT.ext (s2.trans s24), fun H5 z5 xs CH e5 t5 ez5 rz5 hR => ?_⟩
    have ok := fc_ok hw hn _ CH (Nat.le_refl _) hR
    intro p dx n1 n2 n3
    have s6 := (Same.up (H := H5) (o := .own p) n2).trans (Same.up (o := .ins A.CM dx []) (by rw [upd_ne n3.symm]; exact n1))
    have e45 : LamX.ExtN H4 (upd (upd H5 dx (.own p)) p (.ins A.CM dx [])) := e5.trans (extN_of s6)
    refine ⟨p, dx, z4, k, z5, mrL w1 ks X m ks.length, X, CH, xs, rfl, upd_same, .inl (e45 _ _ e4 (fun _ z => nomatch z)), .inr (e45 _ _ (s4 _ _ ek) (fun _ z => nomatch z)), s6 _ _ ez5, rz5.same s6, Nat.le_trans ok.lens.1 hn, fun H7 fr at7 => ⟨rfl, ?_⟩⟩
    have s57 : Same H5 H7 := fun b o e => fr b o (s6 _ _ e) (fun z => by rw [z, n1] at e; cases e)
    exact q H7 p X m CH ((extN_of (s2.trans s24)).trans (e5.trans (extN_of s57))) (t5.ext s57) hX hXm hm1 hm2 hR at7
theorem tabs_but {T : List (Addr × Str)} {H H' : Hp} {d : Addr} {xs : List V} (t : Tabs T H) (h : H d = some (.lst xs)) (b : But d H H') : Tabs T H' := fun p hp => by
  obtain ⟨ps, h1, h2, h3⟩ := t p hp
  refine ⟨ps, b _ _ (ne_of h1 h (by intro z; cases z)) h1, h2, fun pos cv hc => ?_⟩
  obtain ⟨c, e1, e2⟩ := h3 pos cv hc
  exact ⟨c, e1, b _ _ (ne_of e2 h (by intro z; unfold LamX.CodeO at z; cases z)) e2⟩
theorem keyAt_snoc (ks : List Int) (x : Int) (c : Nat) : keyAt (ks ++ [x]) c = if c < ks.length then keyAt ks c else if c = ks.length then x else 0 := by
  unfold keyAt
  rw [List.getD_eq_getElem?_getD, List.getD_eq_getElem?_getD]
  by_cases h : c < ks.length
  · rw [if_pos h, List.getElem?_append_left h]
  · rw [if_neg h, List.getElem?_append_right (by omega)]
    by_cases h2 : c = ks.length
    · rw [if_pos h2, h2, Nat.sub_self]
      rfl
    · rw [if_neg h2, show c - ks.length = (c - ks.length - 1) + 1 by omega]
      rfl
theorem mr_at {w : Nat} {ks : List Int} {X : List Nat} {m : Int} : ∀ n i, i < n → keyAt (mrL w ks X m n) i = if i ∈ X then keyAt ks i else if i = 0 then m else keyAt (mrL w ks X m n) ((i - 1) / w)
  | 0, i, h => by omega
  | n + 1, i, h => by
    have hl := mr_len w ks X m n
    have e : ∀ j, keyAt (mrL w ks X m (n + 1)) j = if j < n then keyAt (mrL w ks X m n) j else if j = n then (if n ∈ X then keyAt ks n else if n = 0 then m else keyAt (mrL w ks X m n) ((n - 1) / w)) else 0 := fun j => by
      show keyAt (mrL w ks X m n ++ [_]) j = _
      rw [keyAt_snoc, hl]
    have hd : (i - 1) / w ≤ i - 1 := Nat.div_le_self _ _
    by_cases hi : i = n
    · subst hi
      rw [e i, if_neg (Nat.lt_irrefl _), if_pos rfl]
      by_cases h1 : i ∈ X
      · rw [if_pos h1, if_pos h1]
      · rw [if_neg h1, if_neg h1]
        by_cases h0 : i = 0
        · rw [if_pos h0, if_pos h0]
        · rw [if_neg h0, if_neg h0, e ((i - 1) / w), if_pos (by omega)]
    · rw [e i, if_pos (by omega), mr_at n i (by omega)]
      by_cases h1 : i ∈ X
      · rw [if_pos h1, if_pos h1]
      · rw [if_neg h1, if_neg h1]
        by_cases h0 : i = 0
        · rw [if_pos h0, if_pos h0]
        · rw [if_neg h0, if_neg h0, e ((i - 1) / w), if_pos (by omega)]
end
end Tw

set_option Elab.async false
set_option linter.all false
set_option maxRecDepth 100000
set_option maxHeartbeats 2000000
namespace Tw
open PySem PySem.Spec PyProof.Rows L2
section
variable {P : Program} {w : World} {K : PySem.W.Frag} {mg : Str → Option Value} {base : Heap} {A : Ad}
open LamX (ExtN Tabs TabS)
/-- where a key of the mended row comes from -/
theorem mr_from {w n : Nat} {ks : List Int} {X : List Nat} {m : Int} (hw : 1 ≤ w ∧ w ≤ 4) (hn : n ≤ 12) : ∀ k i, i ≤ k → i < n → (∃ a ∈ X, a ∈ wayL w i ∧ keyAt (mrL w ks X m n) i = keyAt ks a) ∨ keyAt (mrL w ks X m n) i = m
  | k, i, hk, hi => by
    rw [mr_at n i hi]
    by_cases h1 : i ∈ X
    · rw [if_pos h1]
      exact .inl ⟨i, h1, up_self w (by omega) i (by omega) hw.1, rfl⟩
    · rw [if_neg h1]
      by_cases h0 : i = 0
      · rw [if_pos h0]
        exact .inr rfl
      · rw [if_neg h0]
        have hd : (i - 1) / w ≤ i - 1 := Nat.div_le_self _ _
        match k, hk with
        | 0, hk => omega
        | k + 1, hk =>
          rcases mr_from (m := m) (ks := ks) (X := X) hw hn k ((i - 1) / w) (by omega) (by omega) with ⟨a, a1, a2, a3⟩ | h
          · exact .inl ⟨a, a1, up_trans w (by omega) i (by omega) hw.1 _ (par_way w i hw (by omega) (by omega)) a a2, a3⟩
          · exact .inr h
/-- it rises -/
theorem mr_rise {w n : Nat} {ks : List Int} {X : List Nat} {m : Int} (hw : 1 ≤ w ∧ w ≤ 4) (hn : n ≤ 12) (hs : Stay w ks X) (hm : ∀ i, i < n → m ≤ keyAt ks i) {i : Nat} (h0 : 0 < i) (hi : i < n) : keyAt (mrL w ks X m n) ((i - 1) / w) ≤ keyAt (mrL w ks X m n) i := by
  have hd : (i - 1) / w ≤ i - 1 := Nat.div_le_self _ _
  rw [mr_at n i hi]
  by_cases h1 : i ∈ X
  · rw [if_pos h1]
    rcases mr_from (m := m) (ks := ks) (X := X) hw hn _ ((i - 1) / w) (Nat.le_refl _) (by omega) with ⟨a, a1, a2, a3⟩ | h
    · rw [a3]
      have hu := up_trans w (by omega) i (by omega) hw.1 _ (par_way w i hw (by omega) (by omega)) a a2
      have hle := up_le w (by omega) _ (by omega) hw.1 a a2
      have := hs a a1 i h1
      unfold Fal at this
      by_cases hk : keyAt ks i < keyAt ks a
      · exact absurd ⟨hu, by omega, hk⟩ this
      · omega
    · rw [h]
      exact hm i hi
  · rw [if_neg h1, if_neg (by omega)]
    exact Int.le_refl _
theorem mx_le {n : Nat} {X : List Nat} (h : X.Nodup) (hX : ∀ x ∈ X, x < n) : X.length ≤ n := by
  have hs : X ⊆ List.range n := fun x hx => List.mem_range.mpr (hX x hx)
  have := h.length_le_of_subset hs
  rwa [List.length_range] at this
theorem mr_kept {w n i : Nat} {ks : List Int} {X : List Nat} {m : Int} (h : i < n) (hx : i ∈ X) : keyAt (mrL w ks X m n) i = keyAt ks i := by
  rw [mr_at n i h, if_pos hx]
theorem IsMx.uniq {n w : Nat} {ks : List Int} {c d : Nat} (h : IsMx n w ks c) (g : IsMx n w ks d) : c = d := by
  obtain ⟨X, a, b, e, f⟩ := h.ex
  obtain ⟨Y, a', b', e', f'⟩ := g.ex
  have h1 := g.le X a b e
  have h2 := h.le Y a' b' e'
  omega
theorem stay_same {w : Nat} {ks ms : List Int} {X : List Nat} (h : Stay w ks X) (e : ∀ x ∈ X, keyAt ms x = keyAt ks x) : Stay w ms X := fun x hx y hy f => h x hx y hy ⟨f.1, f.2.1, by rw [← e x hx, ← e y hy]; exact f.2.2⟩
theorem stay_rise {w n : Nat} {R : List Int} (hw : 1 ≤ w ∧ w ≤ 4) (hn : n ≤ 12) (hr : ∀ i, 0 < i → i < n → keyAt R ((i - 1) / w) ≤ keyAt R i) {X : List Nat} (hX : ∀ x ∈ X, x < n) : Stay w R X := fun x _ y hy f => by
  have h1 := rise_stay hw hn hr y y (Nat.le_refl _) (hX y hy) x f.1
  have h2 := f.2.2
  omega
/-- a largest set and one place more, at the mended key -/
theorem mx_late {w n : Nat} {ks ms : List Int} {X : List Nat} {m : Int} {i c : Nat} (hw : 1 ≤ w ∧ w ≤ 4) (hn : n ≤ 12) (h : IsMx n w ks c) (hX : X.Nodup) (hb : ∀ x ∈ X, x < n) (hs : Stay w ks X) (hl : X.length = c) (hm : ∀ j, j < n → m ≤ keyAt ks j)
    (hi : i < n) (hn2 : i ∉ X) (e : ∀ x, x < n → x ≠ i → keyAt ms x = keyAt ks x) (ei : keyAt ms i = keyAt (mrL w ks X m n) i) : IsMx n w ms (c + 1) := by
  have hst : Stay w ms (i :: X) := by
    refine stay_same (stay_rise (R := mrL w ks X m n) hw hn (fun j h0 hj => mr_rise hw hn hs hm h0 hj) (n := n) fun x hx => ?_) fun x hx => ?_
    · rcases List.mem_cons.mp hx with rfl | hx
      · exact hi
      · exact hb x hx
    · rcases List.mem_cons.mp hx with rfl | hx
      · exact ei
      · rw [mr_kept (hb x hx) hx]
        exact e x (hb x hx) fun z => hn2 (z ▸ hx)
  refine ⟨⟨i :: X, List.nodup_cons.mpr ⟨hn2, hX⟩, fun x hx => ?_, hst, by rw [List.length_cons, hl]⟩, fun Y a b f => ?_⟩
  · rcases List.mem_cons.mp hx with rfl | hx
    · exact hi
    · exact hb x hx
  · have h1 := h.le (Y.erase i) (a.erase i) (fun x hx => b x (List.mem_of_mem_erase hx)) (stay_same (fun x hx y hy => f x (List.mem_of_mem_erase hx) y (List.mem_of_mem_erase hy)) fun x hx => (e x (b x (List.mem_of_mem_erase hx)) ((List.Nodup.mem_erase_iff a).mp hx).1).symm)
    have h2 := List.length_erase (a := i) (l := Y)
    by_cases hs : i ∈ Y
    · rw [if_pos hs] at h2
      omega
    · rw [if_neg hs] at h2
      omega
/-- the mended row has the row's keys at the kept places and nowhere else -/
theorem mr_shows {w n : Nat} {ks : List Int} {X : List Nat} {m : Int} {c : Nat} (hw : 1 ≤ w ∧ w ≤ 4) (hn : n ≤ 12) (h : IsMx n w ks c) (hX : X.Pairwise (· < ·)) (hb : ∀ x ∈ X, x < n) (hs : Stay w ks X) (hl : X.length = c) (hm : ∀ j, j < n → m ≤ keyAt ks j) :
    X = (List.range n).filter (fun i => decide (keyAt (mrL w ks X m n) i = keyAt ks i)) := by
  have hnd : X.Nodup := List.nodup_iff_pairwise_ne.mpr (hX.imp fun h => Nat.ne_of_lt h)
  refine List.Perm.eq_of_pairwise (fun x y _ _ a b => absurd (Nat.lt_trans a b) (Nat.lt_irrefl _)) hX (List.Pairwise.filter _ List.pairwise_lt_range) ((List.perm_ext_iff_of_nodup hnd (List.Pairwise.filter _ List.nodup_range)).mpr fun x => ?_)
  rw [List.mem_filter, List.mem_range, decide_eq_true_eq]
  refine ⟨fun hx => ⟨hb x hx, mr_kept (hb x hx) hx⟩, fun ⟨hx, he⟩ => ?_⟩
  by_cases hin : x ∈ X
  · exact hin
  · have g := mx_late (ms := ks) hw hn h hnd hb hs hl hm hx hin (fun _ _ _ => rfl) he.symm
    have := h.uniq g
    omega
theorem keyAt_of {ks : List Int} {z : Int} (h : z ∈ ks) : ∃ i, i < ks.length ∧ keyAt ks i = z := by
  obtain ⟨i, hi, e⟩ := List.getElem_of_mem h
  exact ⟨i, hi, (keyAt_get hi).trans e⟩
section
variable {w : Nat} {ks : List Int} {X : List Nat} {m : Int} {CH : List (List Nat)}
theorem Fd.nd (f : Fd w ks X m CH) : X.Nodup := List.nodup_iff_pairwise_ne.mpr (f.asc.imp fun h => Nat.ne_of_lt h)
theorem Fd.mr_in (f : Fd w ks X m CH) (hw : 1 ≤ w ∧ w ≤ 4) (hn : ks.length ≤ 12) (h1 : 1 ≤ ks.length) : ∀ z ∈ mrL w ks X m ks.length, z ∈ ks := fun z hz => by
  obtain ⟨i, hi, e⟩ := keyAt_of hz
  rw [mr_len] at hi
  rcases mr_from (m := m) (ks := ks) (X := X) hw hn i i (Nat.le_refl _) hi with ⟨a, a1, a2, a3⟩ | h
  · rw [← e, a3]
    exact keyAt_mem (f.lt a a1)
  · rw [← e, h]
    exact f.mem h1
theorem Fd.rise (f : Fd w ks X m CH) (hw : 1 ≤ w ∧ w ≤ 4) (hn : ks.length ≤ 12) : Rise w (mrL w ks X m ks.length) ks.length := fun i a b => mr_rise hw hn f.st f.low a b
theorem Fd.shows (f : Fd w ks X m CH) (hw : 1 ≤ w ∧ w ≤ 4) (hn : ks.length ≤ 12) : X = (List.range ks.length).filter (fun i => decide (keyAt (mrL w ks X m ks.length) i = keyAt ks i)) := mr_shows hw hn f.mx f.asc f.lt f.st f.len f.low
theorem Fd.le (f : Fd w ks X m CH) : CH.length ≤ ks.length := by
  rw [← f.len]
  exact mx_le f.nd f.lt
end
theorem mx_rise {w n : Nat} {R : List Int} (hw : 1 ≤ w ∧ w ≤ 4) (hn : n ≤ 12) (hr : ∀ i, 0 < i → i < n → keyAt R ((i - 1) / w) ≤ keyAt R i) : IsMx n w R n :=
  ⟨⟨List.range n, List.nodup_range, fun x hx => List.mem_range.mp hx, stay_rise hw hn hr fun x hx => List.mem_range.mp hx, List.length_range⟩, fun X a b _ => mx_le a b⟩
theorem mx_heap {w c : Nat} {ks : List Int} (hw : 1 ≤ w ∧ w ≤ 4) (hn : ks.length ≤ 12) (h : IsMx ks.length w ks c) : ks.length = c ↔ Rise w ks ks.length := by
  refine ⟨fun e i h0 hi => ?_, fun hr => (mx_rise hw hn fun i a b => hr i a b).uniq h⟩
  obtain ⟨X, a, b, f, l⟩ := h.ex
  have all : ∀ i, i < ks.length → i ∈ X := fun i hi => by
    by_cases hx : i ∈ X
    · exact hx
    · have := mx_le (n := ks.length) (List.nodup_cons.mpr ⟨hx, a⟩) fun x hx => by
        rcases List.mem_cons.mp hx with rfl | hx
        · exact hi
        · exact b x hx
      rw [List.length_cons] at this
      omega
  have hd : (i - 1) / w ≤ i - 1 := Nat.div_le_self _ _
  have h1 := f _ (all ((i - 1) / w) (by omega)) _ (all i hi)
  by_cases hk : keyAt ks i < keyAt ks ((i - 1) / w)
  · exact absurd ⟨par_way w i hw (by omega) (by omega), by omega, hk⟩ h1
  · omega
section
variable {w : Nat} {ks : List Int} {X : List Nat} {m : Int} {CH : List (List Nat)}
theorem Fd.pm (f : Fd w ks X m CH) : CH.flatten.Perm (List.range ks.length) := by
  have h := f.ok.pm
  rwa [List.filter_eq_self.mpr fun x _ => decide_eq_true (Nat.zero_le x)] at h
theorem Fd.few0 (f : Fd w ks X m CH) (hw : 1 ≤ w ∧ w ≤ 4) (hn : ks.length ≤ 12) : decide (V.int ((ks.length : Int) - CH.length) = V.int 0) = lheap ks w := by
  rw [Bool.eq_iff_iff, decide_eq_true_eq, lheap_iff hw hn, ← mx_heap hw hn f.mx]
  have := f.le
  refine ⟨fun h => ?_, fun h => ?_⟩
  · have h : (ks.length : Int) - CH.length = 0 := by injection h
    omega
  · rw [h, Int.sub_self]
theorem Fd.heapR (f : Fd w ks X m CH) (hw : 1 ≤ w ∧ w ≤ 4) (hn : ks.length ≤ 12) : lheap (mrL w ks X m ks.length) w = true :=
  (lheap_iff hw (by rw [mr_len]; exact hn)).mpr (by rw [mr_len]; exact f.rise hw hn)
end
end
end Tw

set_option Elab.async false
set_option linter.all false
set_option maxRecDepth 100000
set_option maxHeartbeats 2000000
namespace Tw
open PySem PySem.Spec PyProof.Rows L2
section
variable {P : Program} {w : World} {K : PySem.W.Frag} {mg : Str → Option Value} {base : Heap} {A : Ad}
open LamX (ExtN Tabs TabS)
/-! the law of k30: new_same new_up ne_int tupQ catTup Fd Fd.of spPrt spMnd ThAt ThAt.same AtM AtM.ext AtM.same fdM fdM_shows fdM_row fdM_kept fdM_chains ok_keys b_keys TT spMend spShowG spIMG spEM IsMx fc_mx ok_take b_take ok_pick b_pick ok_arm b_arm DrAt DrAt.ext DrAt.start DrAt.same But But.of But.trans tabs_but extN_of small1000 RowIn AccR -/
theorem steps_of {w : Nat} {ks : List Int} {C : List Nat} (h : C.Pairwise (Fal w ks)) : StepsP w ks C := fun j hj => by
  rw [getD_at (show j < C.length by omega), getD_at hj]
  exact List.pairwise_iff_getElem.mp h j (j + 1) (by omega) hj (by omega)
theorem Fd.showP {w : Nat} {ks : List Int} {X : List Nat} {m : Int} {CH : List (List Nat)} (f : Fd w ks X m CH) (hw : 1 ≤ w ∧ w ≤ 4) (hn : ks.length ≤ 12) : ShowP w ks.length ks (mrL w ks X m ks.length) X CH :=
  ⟨f.rise hw hn, f.len.symm, f.shows hw hn, f.pm, fun C hC => ⟨f.ok.ne C hC, steps_of (f.ok.ch C hC)⟩⟩
theorem eqM_at {C : Addr} {H : Hp} {a b : Addr} {x0 y0 : List Int} {X Y : List Nat} {CH DH : List (List Nat)} {Q : VK} {E : XK} (h1 : AtM C H a x0 X CH) (h2 : AtM C H b y0 Y DH) {r : Bool} (hr : decide (x0 = y0 ∧ X = Y ∧ CH = DH) = r) (q : Q (.bl r) H) : spEM K C [.ref a, .ref b] H Q E := ⟨a, _, x0, X, CH, rfl, h1, .inl ⟨b, y0, Y, DH, rfl, h2, hr ▸ q⟩⟩
theorem AtM.ins {C : Addr} {H : Hp} {p : Addr} {x0 : List Int} {X : List Nat} {CH : List (List Nat)} (h : AtM C H p x0 X CH) : ∃ dx fs, H p = some (.ins C dx fs) := let ⟨dx, _, _, _, _, e, _⟩ := h; ⟨dx, _, e⟩
structure AccL (H1 : Hp) (D : Addr) (CH : List (List Nat)) (H : Hp) : Prop where
  s : Same H1 H
  n : H1 D = none
  a : ∃ xs, H D = some (.lst xs) ∧ Paired (fun x C => ∃ t : Addr, x = .ref t ∧ t ≠ D ∧ H t = some (.lst (vi C))) xs CH
theorem pairL_push {H : Hp} {D : Addr} {x : V} {C : List Nat} {F : V → List Nat → Prop} (h : F x C) : ∀ {xs : List V} {CH : List (List Nat)}, Paired F xs CH → Paired F (xs ++ [x]) (CH ++ [C])
  | _, _, .nil => .cons h .nil
  | _, _, .cons a b => .cons a (pairL_push (H := H) (D := D) h b)
theorem AccL.push {H1 H : Hp} {D : Addr} {CH : List (List Nat)} {C : List Nat} {u : Addr} (h : AccL H1 D CH H) (nu : H u = none) (hl : CH.length < sizeLine) :
    ∃ acc, upd H u (.lst (vi C)) D = some (.lst acc) ∧ acc.length < sizeLine ∧ AccL H1 D (CH ++ [C]) (upd (upd H u (.lst (vi C))) D (.lst (acc ++ [.ref u]))) := by
  obtain ⟨xs, e, z⟩ := h.a
  have hDu := ne_of_none e nu
  refine ⟨xs, by rw [upd_ne hDu]; exact e, by rw [Paired.length z]; exact hl, fun b o k => ?_, h.n, xs ++ [.ref u], upd_same, pairL_push (H := H) (D := D) ⟨u, rfl, hDu.symm, by rw [upd_ne hDu.symm, upd_same]⟩ (L2.Paired.mapP z fun _ _ ⟨t, e1, e2, e3⟩ => ⟨t, e1, e2, by rw [upd_ne e2, upd_ne (ne_of_none e3 nu)]; exact e3⟩)⟩
  rw [upd_ne (ne_of_none k h.n), upd_ne (ne_of_none (h.s b o k) nu)]
  exact h.s b o k
structure Lw (K : PySem.W.Frag) (A : Ad) (d a q4 p : Addr) (ns ks x0 : List Int) (X : List Nat) (CH : List (List Nat)) (k : Nat) (H : Hp) : Prop where
  dr : DrAt K H d a ns k
  t : LamX.Tabs (TT A) H
  row : H q4 = some (.lst (ks.map V.int))
  am : AtM A.CM H p x0 X CH
theorem Lw.same {K : PySem.W.Frag} {A : Ad} {d a q4 p : Addr} {ns ks x0 : List Int} {X : List Nat} {CH : List (List Nat)} {k : Nat} {H H' : Hp} (h : Lw K A d a q4 p ns ks x0 X CH k H) (s : Same H H') : Lw K A d a q4 p ns ks x0 X CH k H' := ⟨h.dr.same s, h.t.ext s, s _ _ h.row, h.am.same s⟩
theorem AtM.but {C : Addr} {H H' : Hp} {p d b : Addr} {x0 : List Int} {X : List Nat} {CH : List (List Nat)} {k : Int} (h : AtM C H p x0 X CH) (bt : But d H H') (ed : H d = some (.lst [.ref b, .int k])) : AtM C H' p x0 X CH := by
  obtain ⟨dx, t0, t1, t2, xs, g1, g2, g3, g4, r⟩ := h
  refine ⟨dx, t0, t1, t2, xs, bt _ _ (ne_of g1 ed (by intro z; cases z)) g1, bt _ _ (ne_of g2 ed (by intro z; cases z)) g2, bt _ _ (ne_of g3 ed (by intro z; cases z)) g3, bt _ _ (ne_of g4 ed ?_) g4, L2.Paired.mapP r fun _ _ ⟨t, e, z⟩ => ⟨t, e, bt _ _ (ne_of z ed (by intro q; cases q)) z⟩⟩
  intro z
  injection z with z
  subst z
  obtain ⟨_, t, e, _⟩ := r.get (i := 1) (x := .int k) rfl
  cases e
theorem lst_ne {ks : List Int} {b : Addr} {xs : List V} : HO.lst (ks.map V.int) ≠ .lst (.ref b :: xs) := fun z => by
  cases ks with
  | nil => injection z with z; cases z
  | cons u us =>
    injection z with z
    injection z with z _
    cases z
theorem AtM.put {C : Addr} {H : Hp} {p q o : Addr} {x0 : List Int} {X : List Nat} {CH : List (List Nat)} {xs : List V} {z o2 : HO} (h : AtM C H p x0 X CH) (eq : H q = some (.lst (.ref o :: xs))) (eo : H o = some o2) (no : ∀ ys, o2 ≠ .tup ys) : AtM C (upd H q z) p x0 X CH := by
  obtain ⟨dx, t0, t1, t2, ys, g1, g2, g3, g4, r⟩ := h
  refine ⟨dx, t0, t1, t2, ys, (upd_ne (ne_of g1 eq (by intro z; cases z))).trans g1, (upd_ne (ne_of g2 eq (by intro z; cases z))).trans g2, (upd_ne (ne_of g3 eq (by intro z; cases z))).trans g3, (upd_ne (ne_of g4 eq ?_)).trans g4, L2.Paired.mapP r fun _ _ ⟨t, e, z⟩ => ⟨t, e, (upd_ne (ne_of z eq (by intro q; cases q))).trans z⟩⟩
  intro z
  injection z with z
  subst z
  obtain ⟨_, t, e, e2⟩ := r.get (i := 0) (x := .ref o) rfl
  cases e
  rw [eo] at e2
  exact no _ (by injection e2)
theorem sqL_put {K : PySem.W.Frag} {H : Hp} {a q o : Addr} {ns : List Int} {xs : List V} {z : HO} (h : SqL K H a (ns.map V.int)) (eq : H q = some (.lst (.ref o :: xs))) : SqL K (upd H q z) a (ns.map V.int) := by
  rcases h with (h | ⟨y, h⟩) | h
  · exact .inl (.inl ((upd_ne (ne_of h eq lst_ne)).trans h))
  · exact .inl (.inr ⟨y, (upd_ne (ne_of h eq (by intro z; cases z))).trans h⟩)
  · exact .inr h
def spLaw (K : PySem.W.Frag) (A : Ad) : Sp := fun vs H Q _ => ∃ (a : Addr) (ns : List Int), vs = [.ref a] ∧ SqL K H a (ns.map V.int) ∧ ns.length ≤ 63 ∧ LamX.Tabs (TT A) H ∧ ∀ H', Q (.bl true) H'
theorem ok_law (T : Tx K mg A) (TB : LamX.TabB base mg A.c_falling_chains A.P_falling_chains) : FnOk P w K mg base CX0 16 A.f_law A.d_law ["script"] (spLaw K A) := by
  obtain ⟨mm, kmend⟩ := kb_mend T
  obtain ⟨ms, kmsh⟩ := kb_mshG T
  refine T.F_law.ok sc_law (fun vs H Q E h => ?_) (fun cdv B outer s H vs Q E hr h => ?_)
  · obtain ⟨a, ns, rfl, _⟩ := h
    rfl
  · obtain ⟨a, ns, rfl, hs, hl, hT, q⟩ := h
    have nd := sc_law.nd
    have hu : (B.deeper (envOfC "law" (defScope s_law) s.heap.objs.size A.f_law cdv)).units + 64 < cLine := hr.units
    refine ⟨_, PSs.nox (pss_cons (ps_set (i := 1) nd rfl (Or.inl rfl) (pe_lst (pa_cons (pv 0) (pa_cons pe_int pa_nil))))
      (C8.pss_cut (ps_for PassesOwn.never rfl (pi_range1 rfl T.g_range (pa_cons pe_int pa_nil)) (pg_name (i := 2) nd rfl (Or.inl rfl)) (C8.pss_cut (ps_par (i := 3) (j := 4) rfl nd rfl rfl (by decide) rfl rfl (pa_cons (pe_call (ok_arm T) (hr.mono (by decide)) (by rfl) T.m__law_arms T.F__law_arms.kp (b_arm T) .nil pass0 (pa_cons (pv 1) pa_nil)) (pa_cons (pe_call (ok_keys T) (hr.mono (by decide)) (by rfl) T.m__law_keys T.F__law_keys.kp (b_keys T) .nil pass0 (pa_cons (pv 1) (pa_cons pe_int (pa_cons (pe_call (ok_pick T) (hr.mono (by decide)) (by rfl) T.m__law_pick T.F__law_pick.kp (b_pick T) .nil pass0 (pa_cons (pv 1) (pa_cons (pe_lst (pa_cons pe_int (pa_cons pe_int (pa_cons pe_int pa_nil)))) pa_nil))) pa_nil)))) pa_nil)) rfl)
      (C8.pss_cut (ps_set (i := 5) nd rfl (Or.inr rfl) (pe_callN (ok_mend T TB) (hr.mono (by decide)) (by rfl) T.m_mend T.F_mend.kp kmend pass0 (pa_cons (pv 4) pa_nil) (pk_cons (pv 3) pk_nil)))
      (C8.pss_cut (ps_if (pt_cmpR op_notBl (pe_methN (pv 5) T.cTM T.M_m_shows (ok_mshG T) (hr.mono (by decide)) kmsh pass0 (pa_cons (pe_callTy (r := rTupK K) call_tupleK (by rfl) T.g_tuple (by decide +kernel) (pa_cons (pv 4) pa_nil)) pa_nil) (pk_cons (pv 3) pk_nil)) pe_bl (nomark _)) (pss_one (ps_ret pe_bl)) pss_nil)
      (C8.pss_cut (ps_for PassesOwn.never rfl (pi_range1 rfl T.g_range (pa_cons pe_int pa_nil)) (pg_name (i := 6) nd rfl (Or.inl rfl)) (C8.pss_cut (ps_set (i := 7) nd rfl (Or.inl rfl) (pe_call (ok_prt T) (hr.mono (by decide)) (by rfl) T.m__law_parts T.F__law_parts.kp (b_prt T) .nil pass0 (pa_cons (pv 1) (pa_cons (pv 4) (pa_cons (pv 5) (pa_cons (pv 3) pa_nil))))))
      (C8.pss_cut (ps_set (i := 8) nd rfl (Or.inl rfl) (pe_call (ok_mnd T) (hr.mono (by decide)) (by rfl) T.m__law_is_mended T.F__law_is_mended.kp (b_mnd T) .nil pass0 (pa_cons (pv 4) (pa_cons (pv 3) (pa_cons (pv 7) pa_nil)))))
      (pss_one (ps_if (pt_cmpR op_ne (pe_methN (pe_make T.mkCM (ok_iMG T) (hr.mono (by decide)) (by rfl) T.mCM (b_iMG T) .nil pass0 (pa_cons (pe_ix (r := rIxT K) ix_tup (pv 7) pe_int (fun _ _ => rfl)) (pa_cons (pe_ix (r := rIxT K) ix_tup (pv 7) pe_int (fun _ _ => rfl)) (pa_cons (pe_ix (r := rIxT K) ix_tup (pv 7) pe_int (fun _ _ => rfl)) pa_nil)))) T.cTM T.M_m_shows (ok_mshG T) (hr.mono (by decide)) kmsh pass0 (pa_cons (pv 4) pa_nil) (pk_cons (pv 3) pk_nil)) (pv 8) (nomark _)) (pss_one (ps_ret pe_bl)) pss_nil)))))
      (C8.pss_cut (ps_set (i := 9) nd rfl (Or.inl rfl) (pe_make T.mkCM (ok_iMG T) (hr.mono (by decide)) (by rfl) T.mCM (b_iMG T) .nil pass0 (pa_cons (pe_callTy (r := rListK K) call_listK (by rfl) T.g_list (by decide +kernel) (pa_cons (pe_fld (pv 5) rfl) pa_nil)) (pa_cons (pe_callTy (r := rListK K) call_listK (by rfl) T.g_list (by decide +kernel) (pa_cons (pe_fld (pv 5) rfl) pa_nil)) (pa_cons (pe_lc (own := [("chain", 11)]) (g := gName 11) (tt := tYes) rfl nd (pi_list (pe_fld (pv 5) rfl)) (blkOk_by (own := [("chain", 11)]) (N := ["script", "draw", "turn", "wide", "row", "found", "spot", "three", "due", "made", "others", "chain", "other"]) (sc := defScope s_law) (by decide +kernel)) (fun _ _ _ _ _ => pg_name (i := 11) nd rfl (Or.inl rfl)) (fun _ _ _ _ _ => pts_nil) (fun _ _ _ _ _ => (pe_callTy (r := rListK K) call_listK (by rfl) T.g_list (by decide +kernel) (pa_cons (pv 11) pa_nil)))) pa_nil)))))
      (C8.pss_cut (ps_set (i := 10) nd rfl (Or.inl rfl) (pe_lst (pa_cons (pe_make T.mkCM (ok_iMG T) (hr.mono (by decide)) (by rfl) T.mCM (b_iMG T) .nil pass0 (pa_cons (pe_op (r := rCatA K) op_catA (pe_fld (pv 5) rfl) (pe_tup (pa_cons pe_int pa_nil))) (pa_cons (pe_fld (pv 5) rfl) (pa_cons (pe_fld (pv 5) rfl) pa_nil)))) pa_nil)))
      (C8.pss_cut (ps_set (i := 10) nd rfl (Or.inl rfl) (pe_op op_cat (pv 10) (pe_lst (pa_cons (pe_make T.mkCM (ok_iMG T) (hr.mono (by decide)) (by rfl) T.mCM (b_iMG T) .nil pass0 (pa_cons (pe_fld (pv 5) rfl) (pa_cons (pe_op (r := rCatA K) op_catA (pe_fld (pv 5) rfl) (pe_tup (pa_cons pe_int pa_nil))) (pa_cons (pe_fld (pv 5) rfl) pa_nil)))) pa_nil))))
      (C8.pss_cut (ps_expr (pe_bm PySem.F.plainAttrs_list PySem.F.slot_list_append PySem.F.type_list_append mt_append (pv 10) (pa_cons (pe_make T.mkCM (ok_iMG T) (hr.mono (by decide)) (by rfl) T.mCM (b_iMG T) .nil pass0 (pa_cons (pe_fld (pv 5) rfl) (pa_cons (pe_fld (pv 5) rfl) (pa_cons (pe_op op_cat (pe_fld (pv 5) rfl) (pe_lst (pa_cons (pe_tup (pa_cons pe_int pa_nil)) pa_nil))) pa_nil)))) pa_nil)))
      (C8.pss_cut (ps_if (PW.pt (pw_or (pt_cmpR (op_ne_own T.eqcM (ok_eM T) (hr.mono (by decide)) (b_eM T) pass0) (pv 9) (pv 5) (nomark _)) (pw_or1 (pt_val (pe_callB (cr_any rfl) (by rfl) T.g_any (by decide +kernel) (pa_cons (pe_lc (own := [("other", 12)]) (g := gName 12) (tt := tYes) rfl nd (pi_list (pv 10)) (blkOk_by (own := [("other", 12)]) (N := ["script", "draw", "turn", "wide", "row", "found", "spot", "three", "due", "made", "others", "chain", "other"]) (sc := defScope s_law) (by decide +kernel)) (fun _ _ _ _ _ => pg_name (i := 12) nd rfl (Or.inl rfl)) (fun _ _ _ _ _ => pts_nil) (fun _ _ _ _ _ => (pe_cmpR (op_eq_own T.eqcM (ok_eM T) (hr.mono (by decide)) (b_eM T) pass0) (pv 5) (pv 12) (nomark _)))) pa_nil)))))) (pss_one (ps_ret pe_bl)) pss_nil)
      (pss_one (ps_if (pt_cmpR (op_eq_own T.eqcM (ok_eM T) (hr.mono (by decide)) (b_eM T) pass0) (pv 5) (pe_fld (pv 5) rfl) (nomark _)) (pss_one (ps_ret pe_bl)) pss_nil))))))))))))
      (pss_one (ps_ret pe_bl)))), ?_⟩
    refine ⟨_, rfl, by show 2 ≤ sizeLine; decide, fun d hd => ?_⟩
    have dr0 : DrAt K _ d a ns 0 := DrAt.start hs hl hd
    have t0 : LamX.Tabs (TT A) (upd H d (.lst [.ref a, .int 0])) := hT.ext (Same.up hd)
    refine ⟨fun _ _ => True, ?_, fun _ H' _ => q H'⟩
    refine ⟨4, rfl, by decide, by decide, for_range (n := 4) (fun i σ H' => ∃ (k : Nat) (x2 x3 x4 x5 x6 x7 x8 x9 x10 x11 x12 : Option V), σ = [some (.ref a), some (.ref d), x2, x3, x4, x5, x6, x7, x8, x9, x10, x11, x12] ∧ DrAt K H' d a ns k ∧ LamX.Tabs (TT A) H' ∧ k ≤ 60 * i)
        ⟨0, none, none, none, none, none, none, none, none, none, none, none, rfl, dr0, t0, by omega⟩ ?_ (fun _ _ _ => trivial)⟩
    rintro i σ H1 hi ⟨k, x2, x3, x4, x5, x6, x7, x8, x9, x10, x11, x12, rfl, dr1, t1, hk⟩
    refine ⟨fun σ' H' => ∃ (w1 : Nat) (q4 : Addr) (ks : List Int) (k' : Nat), σ' = [some (.ref a), some (.ref d), some (.int ((0 : Int) + (i : Nat))), some (.int w1), some (.ref q4), x5, x6, x7, x8, x9, x10, x11, x12] ∧ DrAt K H' d a ns k' ∧ LamX.Tabs (TT A) H' ∧ H' q4 = some (.lst (ks.map V.int)) ∧ q4 ≠ d ∧ (1 ≤ w1 ∧ w1 ≤ 4) ∧ k' ≤ 60 * i + 18 ∧ ks.length ≤ 9 ∧ (∀ z ∈ ks, -500 ≤ z ∧ z ≤ 500), ?_, ?_⟩
    · refine ⟨_, rfl, d, a, ns, k, rfl, dr1, by omega, fun H2 w1 b2 dr2 hw => ?_⟩
      have t2 := tabs_but t1 dr1.l b2
      refine ⟨_, rfl, _, rfl, by show 3 ≤ sizeLine; decide, fun b hb => ?_⟩
      have hbd : b ≠ d := fun z => by rw [z, dr2.l] at hb; cases hb
      have s3' := Same.up (o := .lst [V.int 3, V.int 9, V.int 40]) hb
      have dr3' := dr2.same s3'
      refine ⟨d, a, b, ns, [3, 9, 40], k + 1, rfl, dr3', by omega, upd_same, hbd, by show 0 < 3; decide, fun H3 z b3 dr3 hz => ?_⟩
      have t3 := tabs_but (t2.ext s3') dr3'.l b3
      have hz2 : 0 < z ∧ z ≤ 40 := by
        simp only [List.mem_cons, List.not_mem_nil, or_false] at hz
        omega
      obtain ⟨sp, rfl⟩ : ∃ sp : Nat, z = (sp : Int) := ⟨z.toNat, by omega⟩
      refine ⟨d, a, ns, k + 1 + 1, 9, sp, rfl, dr3, by omega, by decide, by omega, fun H4 q4 ks k' b4 dr4 hk' hkl hkb q40 hq4 => ?_⟩
      have t4 := tabs_but t3 dr3.l b4
      exact ⟨_, _, rfl, w1, q4, ks, k', rfl, dr4, t4, hq4, (ne_of_none dr3.l q40).symm, hw, by omega, hkl, fun n hn => by have := hkb n hn; omega⟩
    rintro σ' H2 ⟨w1, q4, ks, k2, rfl, dr2, t2, e4, hqd, hw, hk2, hkl, hkb⟩
    have hkb9 : ∀ z ∈ ks, -1000000000 ≤ z ∧ z ≤ 1000000000 := fun z hz => by have := hkb z hz; omega
    refine ⟨fun σ' H' => ∃ (p : Addr) (X : List Nat) (m : Int) (CH : List (List Nat)), σ' = [some (.ref a), some (.ref d), some (.int ((0 : Int) + (i : Nat))), some (.int w1), some (.ref q4), some (.ref p), x6, x7, x8, x9, x10, x11, x12] ∧ Fd w1 ks X m CH ∧ Lw K A d a q4 p ns ks (mrL w1 ks X m ks.length) X CH k2 H', ?_, ?_⟩
    · exact ⟨_, rfl, _, rfl, rfl, rfl, q4, w1, ks, rfl, hw, e4, by omega, hkb9, t2, fun H6 p X m CH e6 t6 hX hXm hm1 hm2 hR am => ⟨p, X, m, CH, rfl, Fd.of hw (by omega) hX hXm hm1 hm2 hR, dr2.ext e6, t6, e6 _ _ e4 (fun _ z => nomatch z), am⟩⟩
    rintro σ' H3 ⟨p, X, m, CH, rfl, fd, lw3⟩
    have hsh := fd.showP hw (by omega)
    have hcl := fd.le
    have hCl : ∀ C ∈ CH, C.length ≤ 9 := fun C hC => by
      have h1 := (List.sublist_flatten_of_mem hC).length_le
      rw [fd.pm.length_eq, List.length_range] at h1
      omega
    have hXl : X.length ≤ 9 := by rw [fd.len]; omega
    have hRl := mr_len w1 ks X m ks.length
    have hR5 : ∀ z ∈ mrL w1 ks X m ks.length, -500 ≤ z ∧ z ≤ 500 := fun z hz => by
      by_cases h0 : 1 ≤ ks.length
      · exact hkb z (fd.mr_in hw (by omega) h0 z hz)
      · have h1 : mrL w1 ks X m ks.length = [] := List.eq_nil_of_length_eq_zero (by omega)
        rw [h1] at hz
        cases hz
    generalize mrL w1 ks X m ks.length = R at *
    -- shows
    refine ⟨fun σ' H' => σ' = [some (.ref a), some (.ref d), some (.int ((0 : Int) + (i : Nat))), some (.int w1), some (.ref q4), some (.ref p), x6, x7, x8, x9, x10, x11, x12] ∧ Lw K A d a q4 p ns ks R X CH k2 H', ?_, ?_⟩
    · obtain ⟨dx, tr, tk, tc, xs, g1, gr, gk, gc, grow⟩ := id lw3.am
      refine ⟨_, rfl, p, dx, _, rfl, g1, fdM_shows _ _ _, _, rfl, ?_⟩
      unfold tNil
      refine tupQ (.inl lw3.row) fun H4 t s4 et => ?_
      refine ⟨_, rfl, rfl, rfl, p, t, w1, ks.length, ks, R, X, CH, rfl, hw, lw3.am.same s4, .inr et, rfl, by omega, hkb9, hRl, by omega, by omega, fun C hC => by have := hCl C hC; omega, fun H5 b s5 hb => ?_⟩
      rw [hb.mpr hsh]
      exact ⟨true, true, rfl, rfl, _, rfl, ite_b (c := false) (by rw [decide_eq_true rfl]; rfl) (iteF ⟨rfl, lw3.same (s4.trans s5)⟩)⟩
    rintro σ' H4 ⟨rfl, lw4⟩
    -- parts
    refine ⟨fun σ' H' => ∃ (x6 x7 x8 : Option V) (k' : Nat), σ' = [some (.ref a), some (.ref d), some (.int ((0 : Int) + (i : Nat))), some (.int w1), some (.ref q4), some (.ref p), x6, x7, x8, x9, x10, x11, x12] ∧ Lw K A d a q4 p ns ks R X CH k' H' ∧ k' ≤ 60 * (i + 1), ?_, ?_⟩
    · refine ⟨8, rfl, by decide, by decide, for_range (n := 8) (fun j σ H' => ∃ (x6 x7 x8 : Option V) (k' : Nat), σ = [some (.ref a), some (.ref d), some (.int ((0 : Int) + (i : Nat))), some (.int w1), some (.ref q4), some (.ref p), x6, x7, x8, x9, x10, x11, x12] ∧ Lw K A d a q4 p ns ks R X CH k' H' ∧ k' ≤ 60 * i + 18 + 4 * j) ⟨_, _, _, k2, rfl, lw4, by omega⟩ ?_ ?_⟩
      · rintro j σ H5 hj ⟨x6, x7, x8, k5, rfl, lw5, hk5⟩
        refine ⟨fun σ' H' => ∃ (t : Addr) (late : List Int) (X' : List Nat) (CH' : List (List Nat)) (k' : Nat), σ' = [some (.ref a), some (.ref d), some (.int ((0 : Int) + (i : Nat))), some (.int w1), some (.ref q4), some (.ref p), some (.int ((0 : Int) + (j : Nat))), some (.ref t), x8, x9, x10, x11, x12] ∧ Lw K A d a q4 p ns ks R X CH k' H' ∧ k' ≤ 60 * i + 18 + 4 * (j + 1) ∧ ThAt H' t late X' CH' ∧ late.length = ks.length ∧ (∀ z ∈ late, -1000 ≤ z ∧ z ≤ 1000) ∧ X'.length ≤ 9 ∧ CH'.length ≤ 20 ∧ ∀ C ∈ CH', C.length ≤ 40, ?_, ?_⟩
        · refine ⟨_, rfl, _, rfl, _, rfl, _, rfl, d, q4, p, w1, a, ns, ks, R, X, CH, k5, rfl, lw5.dr, by omega, hw, hqd, lw5.row, hkl, hkb, lw5.am, hRl, hR5, hXl, by omega, hCl, fun H6 t late X' CH' k' b6 dr6 hk' th hll hlb hX' hC' hCl' => ?_⟩
          exact ⟨t, late, X', CH', k', rfl, ⟨dr6, tabs_but lw5.t lw5.dr.l b6, b6 _ _ hqd lw5.row, lw5.am.but b6 lw5.dr.l⟩, by omega, th, hll, hlb, hX', hC', hCl'⟩
        rintro σ' H6 ⟨t, late, X', CH', k6, rfl, lw6, hk6, th6, hll, hlb, hX', hC', hCl'⟩
        have hlb9 : ∀ z ∈ late, -1000000000 ≤ z ∧ z ≤ 1000000000 := fun z hz => by have := hlb z hz; omega
        refine ⟨fun σ' H' => ∃ (b : Bool), σ' = [some (.ref a), some (.ref d), some (.int ((0 : Int) + (i : Nat))), some (.int w1), some (.ref q4), some (.ref p), some (.int ((0 : Int) + (j : Nat))), some (.ref t), some (.bl b), x9, x10, x11, x12] ∧ Same H6 H' ∧ (b = true ↔ ShowP w1 ks.length ks late X' CH'), ?_, ?_⟩
        · exact ⟨_, rfl, _, rfl, _, rfl, q4, w1, t, ks, late, X', CH', rfl, hw, lw6.row, by omega, th6, hll, hlb9, hC', hCl', fun H7 b s7 hb => ⟨b, rfl, s7, hb⟩⟩
        rintro σ' H7 ⟨b, rfl, s7, hb⟩
        have lw7 := lw6.same s7
        obtain ⟨a0, a1, a2, xs, e, e0, e1, e2, rows⟩ := (th6.same s7).ob
        refine ⟨_, rfl, t, _, _, _, rfl, rfl, SqT.of e, atI_nat (j := 0) rfl, _, rfl, t, _, _, _, rfl, rfl, SqT.of e, atI_nat (j := 1) rfl, _, rfl, t, _, _, _, rfl, rfl, SqT.of e, atI_nat (j := 2) rfl, ?_⟩
        intro p1 dx1 n1 n2 n3
        have sN := new_up (C := A.CM) n1 n2 n3
        refine ⟨p1, dx1, a0, a1, a2, late, X', CH', xs, rfl, upd_same, .inr (sN _ _ e0), .inr (sN _ _ e1), sN _ _ e2, SeqsAt.of (rows.same sN), hC', fun H8 fr at8 => ⟨rfl, ?_⟩⟩
        have s8 := new_same n1 n2 fr
        have lw8 := lw7.same s8
        obtain ⟨dx8, f8, g8⟩ := at8.ins
        have g8s : (fs : List (Str × V)) → fs = fs := fun _ => rfl
        obtain ⟨dy, u0, u1, u2, ys, h1, h2, h3, h4, h5⟩ := id at8
        refine ⟨p1, dy, _, rfl, h1, fdM_shows _ _ _, _, rfl, _, rfl, rfl, rfl, p1, q4, w1, ks.length, ks, late, X', CH', rfl, hw, at8, .inl lw8.row, rfl, by omega, hkb9, hll, hC', by omega, hCl', fun H9 b2 s9 hb2 => ?_⟩
        have hbb : b2 = b := by
          rw [Bool.eq_iff_iff]
          exact hb2.trans hb.symm
        subst hbb
        exact ⟨_, rfl, rfl, _, rfl, ite_b (c := false) (by rw [decide_eq_true rfl]; rfl) (iteF ⟨_, _, _, k6, rfl, lw8.same s9, hk6⟩)⟩
      · rintro σ H5 ⟨x6, x7, x8, k5, rfl, lw5, hk5⟩
        exact ⟨_, _, _, k5, rfl, lw5, by omega⟩
    rintro σ' H5 ⟨x6, x7, x8, k5, rfl, lw5, hk5⟩
    -- made anew
    refine ⟨fun σ' H' => ∃ (p9 : Addr), σ' = [some (.ref a), some (.ref d), some (.int ((0 : Int) + (i : Nat))), some (.int w1), some (.ref q4), some (.ref p), x6, x7, x8, some (.ref p9), x10, x11, x12] ∧ Lw K A d a q4 p ns ks R X CH k5 H' ∧ AtM A.CM H' p9 R X CH, ?_, ?_⟩
    · obtain ⟨dx, tr, tk, tc, xs, g1, gr, gk, gc, grow⟩ := id lw5.am
      have hxl : xs.length = CH.length := by rw [Paired.length grow, List.length_map]
      refine ⟨_, rfl, p, A.CM, dx, _, _, rfl, g1, T.cTM, T.mRow, fdM_row _ _ _, tr, _, rfl, .inr (SqT.of gr), fun l nl => ?_⟩
      have sl := Same.up (o := .lst (R.map V.int)) nl
      refine ⟨_, rfl, p, A.CM, dx, _, _, rfl, sl _ _ g1, T.cTM, T.mKept, fdM_kept _ _ _, tk, _, rfl, .inr (SqT.of (sl _ _ gk)), fun kp nkp => ?_⟩
      have sk := sl.trans (Same.up (o := .lst (vi X)) nkp)
      have el := (Same.up (o := .lst (vi X)) nkp) _ _ (upd_same (H := H5) (a := l) (o := .lst (R.map V.int)))
      have ek := upd_same (H := upd H5 l (.lst (R.map V.int))) (a := kp) (o := .lst (vi X))
      generalize upd (upd H5 l (.lst (R.map V.int))) kp (.lst (vi X)) = H6 at sk el ek
      refine ⟨_, rfl, p, A.CM, dx, _, _, rfl, sk _ _ g1, T.cTM, T.mChains, fdM_chains _ _ _, tc, rfl, ⟨_, SqL.of (sk _ _ gc)⟩, fun D nD => ?_⟩
      refine lc_it (walk_list (xs := xs)) (fun j H' => AccL H6 D (CH.take j) H') ⟨Same.up nD, nD, [], upd_same, .nil⟩ (fun j H' _ ac => SqL.of (ac.s _ _ (sk _ _ gc))) ?_ ?_
      · rintro j y Ho H7 hj ac ⟨rfl, hy⟩
        obtain ⟨hj2, t, rfl, et⟩ := ((grow.same sk).same ac.s).get hy
        rw [List.length_map] at hj2
        rw [List.getElem_map, zI_vi] at et
        rw [List.take_succ_eq_append_getElem hj2]
        have hl : (CH.take j).length < sizeLine := by rw [List.length_take, sizeLine_eq]; omega
        generalize CH[j] = C at *
        exact ⟨rfl, iteT (B := AccL H6 D (CH.take j ++ [C]) H7) ⟨_, rfl, t, vi C, rfl, .inr (SqT.of et), fun u nu => ac.push nu hl⟩⟩
      · rintro H7 ac
        rw [hxl, List.take_length] at ac
        obtain ⟨zs, ez, rz⟩ := ac.a
        intro p1 dx1 n1 n2 n3
        have sN := new_up (C := A.CM) n1 n2 n3
        refine ⟨p1, dx1, l, kp, D, R, X, CH, zs, rfl, upd_same, .inl (sN _ _ (ac.s _ _ el)), .inl (sN _ _ (ac.s _ _ ek)), sN _ _ ez, L2.Paired.mapP rz (fun _ _ ⟨t, e1, _, e3⟩ => ⟨t, e1, .inl (sN _ _ e3)⟩), by omega, fun H8 fr at8 => ⟨rfl, p1, rfl, ?_, at8⟩⟩
        exact lw5.same (sk.trans (ac.s.trans (new_same n1 n2 fr)))
    rintro σ' H6 ⟨p9, rfl, lw6, am6⟩
    -- others
    refine ⟨fun σ' H' => ∃ (q10 o1 : Addr), σ' = [some (.ref a), some (.ref d), some (.int ((0 : Int) + (i : Nat))), some (.int w1), some (.ref q4), some (.ref p), x6, x7, x8, some (.ref p9), some (.ref q10), x11, x12] ∧ Same H6 H' ∧ H' q10 = some (.lst [.ref o1]) ∧ AtM A.CM H' o1 (R ++ [1]) X CH, ?_, ?_⟩
    · obtain ⟨dx, tr, tk, tc, xs, g1, gr, gk, gc, grow⟩ := id lw6.am
      refine ⟨_, rfl, p, A.CM, dx, _, _, rfl, g1, T.cTM, T.mRow, fdM_row _ _ _, by show 1 ≤ sizeLine; decide, fun u nu => ?_⟩
      have su := Same.up (o := .tup [V.int 1]) nu
      refine catTup (su _ _ gr) upd_same (by rw [List.length_map]; show _ + 1 ≤ _; omega) fun G t2 s7 e7 => ?_
      have s67 := su.trans s7
      refine ⟨_, rfl, p, A.CM, dx, _, _, rfl, s67 _ _ g1, T.cTM, T.mKept, fdM_kept _ _ _, _, rfl, p, A.CM, dx, _, _, rfl, s67 _ _ g1, T.cTM, T.mChains, fdM_chains _ _ _, ?_⟩
      intro p1 dx1 n1 n2 n3
      have sN := new_up (C := A.CM) n1 n2 n3
      have sN2 := s67.trans sN
      refine ⟨p1, dx1, t2, tk, tc, R ++ [1], X, CH, xs, rfl, upd_same, .inr (by rw [List.map_append]; exact sN _ _ e7), .inr (sN2 _ _ gk), sN2 _ _ gc, SeqsAt.of (grow.same sN2), by omega, fun H8 fr at8 => ⟨rfl, by show 1 ≤ sizeLine; decide, fun v nv => ?_⟩⟩
      have sv := Same.up (o := .lst [V.ref p1]) nv
      exact ⟨v, p1, rfl, (s67.trans (new_same n1 n2 fr)).trans sv, upd_same, at8.same sv⟩
    rintro σ' H7 ⟨q10, o1, rfl, s7, e10, am7⟩
    have lw7 := lw6.same s7
    have am67 := am6.same s7
    refine ⟨fun σ' H' => ∃ (q10 o2 : Addr), σ' = [some (.ref a), some (.ref d), some (.int ((0 : Int) + (i : Nat))), some (.int w1), some (.ref q4), some (.ref p), x6, x7, x8, some (.ref p9), some (.ref q10), x11, x12] ∧ Same H7 H' ∧ H' q10 = some (.lst [.ref o1, .ref o2]) ∧ AtM A.CM H' o2 R (X ++ [1]) CH, ?_, ?_⟩
    · obtain ⟨dx, tr, tk, tc, xs, g1, gr, gk, gc, grow⟩ := id lw7.am
      refine ⟨_, rfl, _, rfl, p, A.CM, dx, _, _, rfl, g1, T.cTM, T.mRow, fdM_row _ _ _, _, rfl, p, A.CM, dx, _, _, rfl, g1, T.cTM, T.mKept, fdM_kept _ _ _, by show 1 ≤ sizeLine; decide, fun u nu => ?_⟩
      have su := Same.up (o := .tup [V.int 1]) nu
      refine catTup (su _ _ gk) upd_same (by rw [vi_len]; show _ + 1 ≤ _; omega) fun G t2 s8 e8 => ?_
      have s78 := su.trans s8
      refine ⟨_, rfl, p, A.CM, dx, _, _, rfl, s78 _ _ g1, T.cTM, T.mChains, fdM_chains _ _ _, ?_⟩
      intro p1 dx1 n1 n2 n3
      have sN := new_up (C := A.CM) n1 n2 n3
      have sN2 := s78.trans sN
      refine ⟨p1, dx1, tr, t2, tc, R, X ++ [1], CH, xs, rfl, upd_same, .inr (sN2 _ _ gr), .inr (by rw [vi_app]; exact sN _ _ e8), sN2 _ _ gc, SeqsAt.of (grow.same sN2), by omega, fun H8 fr at8 => ⟨rfl, by show 1 ≤ sizeLine; decide, fun v nv => ?_⟩⟩
      have sv := (s78.trans (new_same n1 n2 fr)).trans (Same.up (o := .lst [V.ref p1]) nv)
      refine ⟨q10, v, _, _, rfl, rfl, sv _ _ e10, upd_same, by show 1 + 1 ≤ sizeLine; decide, fun z nz => ?_⟩
      have sz := sv.trans (Same.up (o := .lst ([V.ref o1] ++ [V.ref p1])) nz)
      exact ⟨z, p1, rfl, sz, upd_same, (at8.same (Same.up nv)).same (Same.up nz)⟩
    rintro σ' H8 ⟨q10, o2, rfl, s8, e10, am8⟩
    have lw8 := lw7.same s8
    have am68 := am67.same s8
    have am78 := am7.same s8
    refine ⟨fun σ' H' => ∃ (o3 : Addr), σ' = [some (.ref a), some (.ref d), some (.int ((0 : Int) + (i : Nat))), some (.int w1), some (.ref q4), some (.ref p), x6, x7, x8, some (.ref p9), some (.ref q10), x11, x12] ∧ Lw K A d a q4 p ns ks R X CH k5 H' ∧ AtM A.CM H' p9 R X CH ∧ H' q10 = some (.lst [.ref o1, .ref o2, .ref o3]) ∧ AtM A.CM H' o1 (R ++ [1]) X CH ∧ AtM A.CM H' o2 R (X ++ [1]) CH ∧ AtM A.CM H' o3 R X (CH ++ [[1]]), ?_, ?_⟩
    · obtain ⟨dx, tr, tk, tc, xs, g1, gr, gk, gc, grow⟩ := id lw8.am
      have hxl : xs.length = CH.length := by rw [Paired.length grow, List.length_map]
      refine ⟨_, rfl, .inl ⟨rfl, _, SqL.of e10⟩, _, rfl, p, A.CM, dx, _, _, rfl, g1, T.cTM, T.mRow, fdM_row _ _ _, _, rfl, p, A.CM, dx, _, _, rfl, g1, T.cTM, T.mKept, fdM_kept _ _ _, _, rfl, p, A.CM, dx, _, _, rfl, g1, T.cTM, T.mChains, fdM_chains _ _ _, by show 1 ≤ sizeLine; decide, fun u nu => ⟨by show 1 ≤ sizeLine; decide, fun v nv => ?_⟩⟩
      have su := (Same.up (o := .tup [V.int 1]) nu).trans (Same.up (o := .lst [V.ref u]) nv)
      have eu := (Same.up (o := .lst [V.ref u]) nv) _ _ (upd_same (H := H8) (a := u) (o := .tup [V.int 1]))
      refine ⟨tc, v, xs, _, rfl, rfl, su _ _ gc, upd_same, by rw [hxl, sizeLine_eq]; show _ + 1 ≤ _; omega, fun z nz => ?_⟩
      have sz := su.trans (Same.up (o := .lst (xs ++ [V.ref u])) nz)
      have eu2 := (Same.up (o := .lst (xs ++ [V.ref u])) nz) _ _ eu
      have ez := upd_same (H := upd (upd H8 u (.tup [V.int 1])) v (.lst [V.ref u])) (a := z) (o := .lst (xs ++ [V.ref u]))
      generalize upd (upd (upd H8 u (.tup [V.int 1])) v (.lst [V.ref u])) z (.lst (xs ++ [V.ref u])) = H9 at sz eu2 ez
      intro p1 dx1 n1 n2 n3
      have sN := new_up (C := A.CM) n1 n2 n3
      have sN2 := sz.trans sN
      refine ⟨p1, dx1, tr, tk, z, R, X, CH ++ [[1]], xs ++ [V.ref u], rfl, upd_same, .inr (sN2 _ _ gr), .inr (sN2 _ _ gk), sN _ _ ez, SeqsAt.of ?_, by rw [List.length_append]; show _ + 1 ≤ _; omega, fun H10 fr at10 => ⟨rfl, ?_⟩⟩
      · rw [List.map_append]
        exact RowsAt.push (l := zI [1]) ⟨u, rfl, sN _ _ eu2⟩ (grow.same sN2)
      have s10 := sz.trans (new_same n1 n2 fr)
      have e10' := s10 _ _ e10
      obtain ⟨dy, fy, eo1⟩ := (am78.same s10).ins
      have bt : But q10 H10 (upd H10 q10 (.lst ([V.ref o1, V.ref o2] ++ [V.ref p1]))) := fun b o hb e => by rw [upd_ne hb]; exact e
      have lw10 := lw8.same s10
      refine ⟨q10, _, .ref p1, rfl, rfl, e10', by show 2 < sizeLine; decide, p1, rfl, ⟨⟨bt _ _ (ne_of lw10.dr.l e10' (by intro z; injection z with z; injection z with _ z; injection z with z _; cases z)) lw10.dr.l, lw10.dr.n, sqL_put lw10.dr.s e10', lw10.dr.h⟩, tabs_but lw10.t e10' bt, bt _ _ (ne_of lw10.row e10' lst_ne) lw10.row, lw10.am.put e10' eo1 (fun _ z => nomatch z)⟩, (am68.same s10).put e10' eo1 (fun _ z => nomatch z), upd_same, (am78.same s10).put e10' eo1 (fun _ z => nomatch z), (am8.same s10).put e10' eo1 (fun _ z => nomatch z), at10.put e10' eo1 (fun _ z => nomatch z)⟩
    rintro σ' H9 ⟨o3, rfl, lw9, am9, e9, b1, b2, b3⟩
    refine ⟨fun σ' H' => σ' = [some (.ref a), some (.ref d), some (.int ((0 : Int) + (i : Nat))), some (.int w1), some (.ref q4), some (.ref p), x6, x7, x8, some (.ref p9), some (.ref q10), x11, x12] ∧ Lw K A d a q4 p ns ks R X CH k5 H', ?_, ?_⟩
    · obtain ⟨d1, f1, g1⟩ := am9.ins
      obtain ⟨d2, f2, g2⟩ := lw9.am.ins
      refine ⟨_, rfl, _, rfl, p9, d1, f1, rfl, g1, .ins g2, eqM_at am9 lw9.am (decide_eq_true ⟨rfl, rfl, rfl⟩) ⟨_, rfl, _, rfl, iteF ?_⟩⟩
      refine ⟨_, rfl, q10, rfl, ⟨_, SqL.of e9⟩, fun D nD => ?_⟩
      have one : ∀ (j : Nat) (x : V), [V.ref o1, V.ref o2, V.ref o3][j]? = some x → ∃ (o : Addr) (y0 : List Int) (Y : List Nat) (DH : List (List Nat)), x = .ref o ∧ AtM A.CM H9 o y0 Y DH ∧ ¬ (R = y0 ∧ X = Y ∧ CH = DH) := fun j x hx => by
        match j, hx with
        | 0, hx => exact ⟨o1, _, _, _, (Option.some.inj hx).symm, b1, fun z => by have := congrArg List.length z.1; rw [List.length_append] at this; change _ = _ + 1 at this; omega⟩
        | 1, hx => exact ⟨o2, _, _, _, (Option.some.inj hx).symm, b2, fun z => by have := congrArg List.length z.2.1; rw [List.length_append] at this; change _ = _ + 1 at this; omega⟩
        | 2, hx => exact ⟨o3, _, _, _, (Option.some.inj hx).symm, b3, fun z => by have := congrArg List.length z.2.2; rw [List.length_append] at this; change _ = _ + 1 at this; omega⟩
        | _ + 3, hx => cases hx
      refine lc_it (walk_list (xs := [V.ref o1, V.ref o2, V.ref o3])) (fun j H' => Acc H9 D (List.replicate j (V.bl false)) H') (Acc.start nD) (fun j H' _ ac => SqL.of (ac.s _ _ e9)) ?_ ?_
      · rintro j x H10 H11 hj ac ⟨rfl, hx⟩
        obtain ⟨o, y0, Y, DH, rfl, at0, hne⟩ := one j x hx
        have hj3 : j < 3 := hj
        have lwA := lw9.same ac.s
        have at1 := at0.same ac.s
        obtain ⟨d3, f3, g3⟩ := lwA.am.ins
        obtain ⟨d4, f4, g4⟩ := at1.ins
        refine ⟨rfl, iteT (B := Acc H9 D (List.replicate (j + 1) (V.bl false)) H11) ⟨_, rfl, _, rfl, p, d3, f3, rfl, g3, .ins g4, eqM_at lwA.am at1 (decide_eq_false hne) ⟨_, rfl, _, ac.a, by rw [List.length_replicate, sizeLine_eq]; omega, ?_⟩⟩⟩
        rw [List.replicate_succ']
        exact ac.push
      · rintro H10 ac
        exact ⟨D, List.replicate 3 false, rfl, SqL.of ac.a, _, rfl, iteF ⟨rfl, lw9.same ac.s⟩⟩
    rintro σ' H10 ⟨rfl, lw10⟩
    obtain ⟨dx, tr, tk, tc, xs, g1, gr, gk, gc, grow⟩ := id lw10.am
    refine ⟨_, rfl, _, rfl, p, A.CM, dx, _, _, rfl, g1, T.cTM, T.mRow, fdM_row _ _ _, p, dx, _, rfl, g1, .tup gr, ⟨p, _, R, X, CH, rfl, lw10.am, .inr ⟨.type "tuple", .base (.tup gr), T.kiM_tuple, _, rfl, _, rfl, ?_⟩⟩⟩
    exact iteF ⟨k5, _, _, _, _, _, _, _, _, _, _, _, rfl, lw10.dr, lw10.t, hk5⟩

end
end Tw

set_option Elab.async false
set_option linter.all false
set_option maxRecDepth 100000
set_option maxHeartbeats 2000000
namespace Tw
open PySem PySem.Spec PyProof.Rows L2
theorem kit_no {K : PySem.W.Frag} {C : Addr} {t : String} (hc : PySem.W.isClsIn K C = true) (ht : PySem.W.typeIn K (.ref C) = some (.type "type")) (hs : PySem.W.subIn K (.type t) (.ref C) = some false) : PySem.W.kitOne K (.type t) (.ref C) = some false := by
  unfold PySem.W.kitOne PySem.W.kitCls
  have h1 : (PySem.W.clsIn K C).isSome = true := hc
  simp only [h1, ht, hs, beq_self_eq_true, Bool.and_self, if_true]
  rfl
theorem all_mk {l : PySem.W.OpenLaw} {w : World} {K : PySem.W.Frag} {h : Heap} {mg : Str → Option Value} (X : K.In h) (G : h.Ns mainGlobals mg) {fa C CM po D_t___init__ D_t_of D_m_shows D_mend f_is_integer f_is_integer_from f_is_key f_check_arms f_check_many f_check_place f_row_of f_t___init__ f_t_of f_t___len__ f_t___contains__ f_t___iter__ f_t___getitem__ f_t_parent f_t_way_to f_t_subtree f_m___init__ f_m___eq__ f_m_shows f_mend f_sets_to_keep f_mended_row f_falling_chains f_is_rising f_is_falling f__law_number f__law_take f__law_pick f__law_parent f__law_way f__law_arms f__law_keys f__law_is_heap f__law_are_chains f__law_is_mended f__law_loose f__law_parts f_law : Addr} {cc_falling_chains PP_falling_chains : Addr} {od_is_integer an_is_integer : Option Addr} {sl_is_integer : Array (Option Value)} {oc_is_integer kV_is_integer dc_is_integer pm_is_integer cd_is_integer ct_is_integer : Value} {od_is_integer_from an_is_integer_from : Option Addr} {sl_is_integer_from : Array (Option Value)} {oc_is_integer_from kV_is_integer_from dc_is_integer_from pm_is_integer_from cd_is_integer_from ct_is_integer_from : Value} {od_is_key an_is_key : Option Addr} {sl_is_key : Array (Option Value)} {oc_is_key kV_is_key dc_is_key pm_is_key cd_is_key ct_is_key : Value} {od_check_arms an_check_arms : Option Addr} {sl_check_arms : Array (Option Value)} {oc_check_arms kV_check_arms dc_check_arms pm_check_arms cd_check_arms ct_check_arms : Value} {od_check_many an_check_many : Option Addr} {sl_check_many : Array (Option Value)} {oc_check_many kV_check_many dc_check_many pm_check_many cd_check_many ct_check_many : Value} {od_check_place an_check_place : Option Addr} {sl_check_place : Array (Option Value)} {oc_check_place kV_check_place dc_check_place pm_check_place cd_check_place ct_check_place : Value} {od_row_of an_row_of : Option Addr} {sl_row_of : Array (Option Value)} {oc_row_of kV_row_of dc_row_of pm_row_of cd_row_of ct_row_of : Value} {od_t___init__ an_t___init__ : Option Addr} {sl_t___init__ : Array (Option Value)} {oc_t___init__  dc_t___init__ pm_t___init__ cd_t___init__ ct_t___init__ : Value} {od_t_of an_t_of : Option Addr} {sl_t_of : Array (Option Value)} {oc_t_of  dc_t_of pm_t_of cd_t_of ct_t_of : Value} {od_t___len__ an_t___len__ : Option Addr} {sl_t___len__ : Array (Option Value)} {oc_t___len__ kV_t___len__ dc_t___len__ pm_t___len__ cd_t___len__ ct_t___len__ : Value} {od_t___contains__ an_t___contains__ : Option Addr} {sl_t___contains__ : Array (Option Value)} {oc_t___contains__ kV_t___contains__ dc_t___contains__ pm_t___contains__ cd_t___contains__ ct_t___contains__ : Value} {od_t___iter__ an_t___iter__ : Option Addr} {sl_t___iter__ : Array (Option Value)} {oc_t___iter__ kV_t___iter__ dc_t___iter__ pm_t___iter__ cd_t___iter__ ct_t___iter__ : Value} {od_t___getitem__ an_t___getitem__ : Option Addr} {sl_t___getitem__ : Array (Option Value)} {oc_t___getitem__ kV_t___getitem__ dc_t___getitem__ pm_t___getitem__ cd_t___getitem__ ct_t___getitem__ : Value} {od_t_parent an_t_parent : Option Addr} {sl_t_parent : Array (Option Value)} {oc_t_parent kV_t_parent dc_t_parent pm_t_parent cd_t_parent ct_t_parent : Value} {od_t_way_to an_t_way_to : Option Addr} {sl_t_way_to : Array (Option Value)} {oc_t_way_to kV_t_way_to dc_t_way_to pm_t_way_to cd_t_way_to ct_t_way_to : Value} {od_t_subtree an_t_subtree : Option Addr} {sl_t_subtree : Array (Option Value)} {oc_t_subtree kV_t_subtree dc_t_subtree pm_t_subtree cd_t_subtree ct_t_subtree : Value} {od_m___init__ an_m___init__ : Option Addr} {sl_m___init__ : Array (Option Value)} {oc_m___init__ kV_m___init__ dc_m___init__ pm_m___init__ cd_m___init__ ct_m___init__ : Value} {od_m___eq__ an_m___eq__ : Option Addr} {sl_m___eq__ : Array (Option Value)} {oc_m___eq__ kV_m___eq__ dc_m___eq__ pm_m___eq__ cd_m___eq__ ct_m___eq__ : Value} {od_m_shows an_m_shows : Option Addr} {sl_m_shows : Array (Option Value)} {oc_m_shows  dc_m_shows pm_m_shows cd_m_shows ct_m_shows : Value} {od_mend an_mend : Option Addr} {sl_mend : Array (Option Value)} {oc_mend  dc_mend pm_mend cd_mend ct_mend : Value} {od_sets_to_keep an_sets_to_keep : Option Addr} {sl_sets_to_keep : Array (Option Value)} {oc_sets_to_keep kV_sets_to_keep dc_sets_to_keep pm_sets_to_keep cd_sets_to_keep ct_sets_to_keep : Value} {od_mended_row an_mended_row : Option Addr} {sl_mended_row : Array (Option Value)} {oc_mended_row kV_mended_row dc_mended_row pm_mended_row cd_mended_row ct_mended_row : Value} {od_falling_chains an_falling_chains : Option Addr} {sl_falling_chains : Array (Option Value)} {oc_falling_chains kV_falling_chains dc_falling_chains pm_falling_chains  ct_falling_chains : Value} {od_is_rising an_is_rising : Option Addr} {sl_is_rising : Array (Option Value)} {oc_is_rising kV_is_rising dc_is_rising pm_is_rising cd_is_rising ct_is_rising : Value} {od_is_falling an_is_falling : Option Addr} {sl_is_falling : Array (Option Value)} {oc_is_falling kV_is_falling dc_is_falling pm_is_falling cd_is_falling ct_is_falling : Value} {od__law_number an__law_number : Option Addr} {sl__law_number : Array (Option Value)} {oc__law_number kV__law_number dc__law_number pm__law_number cd__law_number ct__law_number : Value} {od__law_take an__law_take : Option Addr} {sl__law_take : Array (Option Value)} {oc__law_take kV__law_take dc__law_take pm__law_take cd__law_take ct__law_take : Value} {od__law_pick an__law_pick : Option Addr} {sl__law_pick : Array (Option Value)} {oc__law_pick kV__law_pick dc__law_pick pm__law_pick cd__law_pick ct__law_pick : Value} {od__law_parent an__law_parent : Option Addr} {sl__law_parent : Array (Option Value)} {oc__law_parent kV__law_parent dc__law_parent pm__law_parent cd__law_parent ct__law_parent : Value} {od__law_way an__law_way : Option Addr} {sl__law_way : Array (Option Value)} {oc__law_way kV__law_way dc__law_way pm__law_way cd__law_way ct__law_way : Value} {od__law_arms an__law_arms : Option Addr} {sl__law_arms : Array (Option Value)} {oc__law_arms kV__law_arms dc__law_arms pm__law_arms cd__law_arms ct__law_arms : Value} {od__law_keys an__law_keys : Option Addr} {sl__law_keys : Array (Option Value)} {oc__law_keys kV__law_keys dc__law_keys pm__law_keys cd__law_keys ct__law_keys : Value} {od__law_is_heap an__law_is_heap : Option Addr} {sl__law_is_heap : Array (Option Value)} {oc__law_is_heap kV__law_is_heap dc__law_is_heap pm__law_is_heap cd__law_is_heap ct__law_is_heap : Value} {od__law_are_chains an__law_are_chains : Option Addr} {sl__law_are_chains : Array (Option Value)} {oc__law_are_chains kV__law_are_chains dc__law_are_chains pm__law_are_chains cd__law_are_chains ct__law_are_chains : Value} {od__law_is_mended an__law_is_mended : Option Addr} {sl__law_is_mended : Array (Option Value)} {oc__law_is_mended kV__law_is_mended dc__law_is_mended pm__law_is_mended cd__law_is_mended ct__law_is_mended : Value} {od__law_loose an__law_loose : Option Addr} {sl__law_loose : Array (Option Value)} {oc__law_loose kV__law_loose dc__law_loose pm__law_loose cd__law_loose ct__law_loose : Value} {od__law_parts an__law_parts : Option Addr} {sl__law_parts : Array (Option Value)} {oc__law_parts kV__law_parts dc__law_parts pm__law_parts cd__law_parts ct__law_parts : Value} {od_law an_law : Option Addr} {sl_law : Array (Option Value)} {oc_law kV_law dc_law pm_law cd_law ct_law : Value}
    (hfa : mg "law" = some (.ref fa))
    (aC : PySem.W.nsIn K mainGlobals "Tree" = some (some (.ref C)))
    (aCM : PySem.W.nsIn K mainGlobals "Mended" = some (some (.ref CM)))
    (a_is_integer : PySem.W.nsIn K mainGlobals "is_integer" = some (some (.ref f_is_integer)))
    (l_is_integer : K.lookup f_is_integer = some ⟨oc_is_integer, od_is_integer, .func (PySem.W.fnOf "is_integer" "is_integer" (defArgs s_is_integer) (defBody s_is_integer) (defScope s_is_integer) .none kV_is_integer dc_is_integer pm_is_integer an_is_integer cd_is_integer ct_is_integer), sl_is_integer⟩)
    (c_is_integer : PySem.W.codeIn K cd_is_integer "is_integer" = true)
    (k_is_integer : PySem.W.keepIn K (.ref f_is_integer) = true)
    (a_is_integer_from : PySem.W.nsIn K mainGlobals "is_integer_from" = some (some (.ref f_is_integer_from)))
    (l_is_integer_from : K.lookup f_is_integer_from = some ⟨oc_is_integer_from, od_is_integer_from, .func (PySem.W.fnOf "is_integer_from" "is_integer_from" (defArgs s_is_integer_from) (defBody s_is_integer_from) (defScope s_is_integer_from) .none kV_is_integer_from dc_is_integer_from pm_is_integer_from an_is_integer_from cd_is_integer_from ct_is_integer_from), sl_is_integer_from⟩)
    (c_is_integer_from : PySem.W.codeIn K cd_is_integer_from "is_integer_from" = true)
    (k_is_integer_from : PySem.W.keepIn K (.ref f_is_integer_from) = true)
    (a_is_key : PySem.W.nsIn K mainGlobals "is_key" = some (some (.ref f_is_key)))
    (l_is_key : K.lookup f_is_key = some ⟨oc_is_key, od_is_key, .func (PySem.W.fnOf "is_key" "is_key" (defArgs s_is_key) (defBody s_is_key) (defScope s_is_key) .none kV_is_key dc_is_key pm_is_key an_is_key cd_is_key ct_is_key), sl_is_key⟩)
    (c_is_key : PySem.W.codeIn K cd_is_key "is_key" = true)
    (k_is_key : PySem.W.keepIn K (.ref f_is_key) = true)
    (a_check_arms : PySem.W.nsIn K mainGlobals "check_arms" = some (some (.ref f_check_arms)))
    (l_check_arms : K.lookup f_check_arms = some ⟨oc_check_arms, od_check_arms, .func (PySem.W.fnOf "check_arms" "check_arms" (defArgs s_check_arms) (defBody s_check_arms) (defScope s_check_arms) .none kV_check_arms dc_check_arms pm_check_arms an_check_arms cd_check_arms ct_check_arms), sl_check_arms⟩)
    (c_check_arms : PySem.W.codeIn K cd_check_arms "check_arms" = true)
    (k_check_arms : PySem.W.keepIn K (.ref f_check_arms) = true)
    (a_check_many : PySem.W.nsIn K mainGlobals "check_many" = some (some (.ref f_check_many)))
    (l_check_many : K.lookup f_check_many = some ⟨oc_check_many, od_check_many, .func (PySem.W.fnOf "check_many" "check_many" (defArgs s_check_many) (defBody s_check_many) (defScope s_check_many) .none kV_check_many dc_check_many pm_check_many an_check_many cd_check_many ct_check_many), sl_check_many⟩)
    (c_check_many : PySem.W.codeIn K cd_check_many "check_many" = true)
    (k_check_many : PySem.W.keepIn K (.ref f_check_many) = true)
    (a_check_place : PySem.W.nsIn K mainGlobals "check_place" = some (some (.ref f_check_place)))
    (l_check_place : K.lookup f_check_place = some ⟨oc_check_place, od_check_place, .func (PySem.W.fnOf "check_place" "check_place" (defArgs s_check_place) (defBody s_check_place) (defScope s_check_place) .none kV_check_place dc_check_place pm_check_place an_check_place cd_check_place ct_check_place), sl_check_place⟩)
    (c_check_place : PySem.W.codeIn K cd_check_place "check_place" = true)
    (k_check_place : PySem.W.keepIn K (.ref f_check_place) = true)
    (a_row_of : PySem.W.nsIn K mainGlobals "row_of" = some (some (.ref f_row_of)))
    (l_row_of : K.lookup f_row_of = some ⟨oc_row_of, od_row_of, .func (PySem.W.fnOf "row_of" "row_of" (defArgs s_row_of) (defBody s_row_of) (defScope s_row_of) .none kV_row_of dc_row_of pm_row_of an_row_of cd_row_of ct_row_of), sl_row_of⟩)
    (c_row_of : PySem.W.codeIn K cd_row_of "row_of" = true)
    (k_row_of : PySem.W.keepIn K (.ref f_row_of) = true)
    (a_t___init__ : PySem.W.findIn K (.ref C) "__init__" = some (some (.ref f_t___init__)))
    (i_t___init__ : PySem.W.isFn K (.ref f_t___init__) = true)
    (l_t___init__ : K.lookup f_t___init__ = some ⟨oc_t___init__, od_t___init__, .func (PySem.W.fnOf "__init__" "Tree.__init__" (defArgs s_t___init__) (defBody s_t___init__) (defScope s_t___init__) .none (.ref D_t___init__) dc_t___init__ pm_t___init__ an_t___init__ cd_t___init__ ct_t___init__), sl_t___init__⟩)
    (c_t___init__ : PySem.W.codeIn K cd_t___init__ "Tree.__init__" = true)
    (k_t___init__ : PySem.W.keepIn K (.ref f_t___init__) = true)
    {tk_t___init__ : Tok}
    (w_t___init__ : PySem.W.nsIn K D_t___init__ "arms" = some (some (.int 2 tk_t___init__)))
    (a_t_of : PySem.W.findCls K (.ref C) (.type "type") "of" = some (.get (.builtin "classmethod.__get__") (.ref po) .none (.ref C)))
    {rest_of : List Value}
    (r_t_of : PySem.W.recIn K po "classmethod" = some (.ref f_t_of :: rest_of))
    (n_t_of : PySem.W.fnIn K f_t_of = true)
    (l_t_of : K.lookup f_t_of = some ⟨oc_t_of, od_t_of, .func (PySem.W.fnOf "of" "Tree.of" (defArgs s_t_of) (defBody s_t_of) (defScope s_t_of) .none (.ref D_t_of) dc_t_of pm_t_of an_t_of cd_t_of ct_t_of), sl_t_of⟩)
    (c_t_of : PySem.W.codeIn K cd_t_of "Tree.of" = true)
    (k_t_of : PySem.W.keepIn K (.ref f_t_of) = true)
    {tk_t_of : Tok}
    (w_t_of : PySem.W.nsIn K D_t_of "arms" = some (some (.int 2 tk_t_of)))
    (a_t___len__ : PySem.W.findIn K (.ref C) "__len__" = some (some (.ref f_t___len__)))
    (i_t___len__ : PySem.W.isFn K (.ref f_t___len__) = true)
    (n_t___len__ : PySem.W.fnIn K f_t___len__ = true)
    (l_t___len__ : K.lookup f_t___len__ = some ⟨oc_t___len__, od_t___len__, .func (PySem.W.fnOf "__len__" "Tree.__len__" (defArgs s_t___len__) (defBody s_t___len__) (defScope s_t___len__) .none kV_t___len__ dc_t___len__ pm_t___len__ an_t___len__ cd_t___len__ ct_t___len__), sl_t___len__⟩)
    (c_t___len__ : PySem.W.codeIn K cd_t___len__ "Tree.__len__" = true)
    (k_t___len__ : PySem.W.keepIn K (.ref f_t___len__) = true)
    (a_t___contains__ : PySem.W.findIn K (.ref C) "__contains__" = some (some (.ref f_t___contains__)))
    (i_t___contains__ : PySem.W.isFn K (.ref f_t___contains__) = true)
    (n_t___contains__ : PySem.W.fnIn K f_t___contains__ = true)
    (l_t___contains__ : K.lookup f_t___contains__ = some ⟨oc_t___contains__, od_t___contains__, .func (PySem.W.fnOf "__contains__" "Tree.__contains__" (defArgs s_t___contains__) (defBody s_t___contains__) (defScope s_t___contains__) .none kV_t___contains__ dc_t___contains__ pm_t___contains__ an_t___contains__ cd_t___contains__ ct_t___contains__), sl_t___contains__⟩)
    (c_t___contains__ : PySem.W.codeIn K cd_t___contains__ "Tree.__contains__" = true)
    (k_t___contains__ : PySem.W.keepIn K (.ref f_t___contains__) = true)
    (a_t___iter__ : PySem.W.findIn K (.ref C) "__iter__" = some (some (.ref f_t___iter__)))
    (i_t___iter__ : PySem.W.isFn K (.ref f_t___iter__) = true)
    (n_t___iter__ : PySem.W.fnIn K f_t___iter__ = true)
    (l_t___iter__ : K.lookup f_t___iter__ = some ⟨oc_t___iter__, od_t___iter__, .func (PySem.W.fnOf "__iter__" "Tree.__iter__" (defArgs s_t___iter__) (defBody s_t___iter__) (defScope s_t___iter__) .none kV_t___iter__ dc_t___iter__ pm_t___iter__ an_t___iter__ cd_t___iter__ ct_t___iter__), sl_t___iter__⟩)
    (c_t___iter__ : PySem.W.codeIn K cd_t___iter__ "Tree.__iter__" = true)
    (k_t___iter__ : PySem.W.keepIn K (.ref f_t___iter__) = true)
    (a_t___getitem__ : PySem.W.findIn K (.ref C) "__getitem__" = some (some (.ref f_t___getitem__)))
    (i_t___getitem__ : PySem.W.isFn K (.ref f_t___getitem__) = true)
    (n_t___getitem__ : PySem.W.fnIn K f_t___getitem__ = true)
    (l_t___getitem__ : K.lookup f_t___getitem__ = some ⟨oc_t___getitem__, od_t___getitem__, .func (PySem.W.fnOf "__getitem__" "Tree.__getitem__" (defArgs s_t___getitem__) (defBody s_t___getitem__) (defScope s_t___getitem__) .none kV_t___getitem__ dc_t___getitem__ pm_t___getitem__ an_t___getitem__ cd_t___getitem__ ct_t___getitem__), sl_t___getitem__⟩)
    (c_t___getitem__ : PySem.W.codeIn K cd_t___getitem__ "Tree.__getitem__" = true)
    (k_t___getitem__ : PySem.W.keepIn K (.ref f_t___getitem__) = true)
    (a_t_parent : PySem.W.findIn K (.ref C) "parent" = some (some (.ref f_t_parent)))
    (i_t_parent : PySem.W.isFn K (.ref f_t_parent) = true)
    (l_t_parent : K.lookup f_t_parent = some ⟨oc_t_parent, od_t_parent, .func (PySem.W.fnOf "parent" "Tree.parent" (defArgs s_t_parent) (defBody s_t_parent) (defScope s_t_parent) .none kV_t_parent dc_t_parent pm_t_parent an_t_parent cd_t_parent ct_t_parent), sl_t_parent⟩)
    (c_t_parent : PySem.W.codeIn K cd_t_parent "Tree.parent" = true)
    (k_t_parent : PySem.W.keepIn K (.ref f_t_parent) = true)
    (a_t_way_to : PySem.W.findIn K (.ref C) "way_to" = some (some (.ref f_t_way_to)))
    (i_t_way_to : PySem.W.isFn K (.ref f_t_way_to) = true)
    (l_t_way_to : K.lookup f_t_way_to = some ⟨oc_t_way_to, od_t_way_to, .func (PySem.W.fnOf "way_to" "Tree.way_to" (defArgs s_t_way_to) (defBody s_t_way_to) (defScope s_t_way_to) .none kV_t_way_to dc_t_way_to pm_t_way_to an_t_way_to cd_t_way_to ct_t_way_to), sl_t_way_to⟩)
    (c_t_way_to : PySem.W.codeIn K cd_t_way_to "Tree.way_to" = true)
    (k_t_way_to : PySem.W.keepIn K (.ref f_t_way_to) = true)
    (a_t_subtree : PySem.W.findIn K (.ref C) "subtree" = some (some (.ref f_t_subtree)))
    (i_t_subtree : PySem.W.isFn K (.ref f_t_subtree) = true)
    (l_t_subtree : K.lookup f_t_subtree = some ⟨oc_t_subtree, od_t_subtree, .func (PySem.W.fnOf "subtree" "Tree.subtree" (defArgs s_t_subtree) (defBody s_t_subtree) (defScope s_t_subtree) .none kV_t_subtree dc_t_subtree pm_t_subtree an_t_subtree cd_t_subtree ct_t_subtree), sl_t_subtree⟩)
    (c_t_subtree : PySem.W.codeIn K cd_t_subtree "Tree.subtree" = true)
    (k_t_subtree : PySem.W.keepIn K (.ref f_t_subtree) = true)
    (a_m___init__ : PySem.W.findIn K (.ref CM) "__init__" = some (some (.ref f_m___init__)))
    (i_m___init__ : PySem.W.isFn K (.ref f_m___init__) = true)
    (l_m___init__ : K.lookup f_m___init__ = some ⟨oc_m___init__, od_m___init__, .func (PySem.W.fnOf "__init__" "Mended.__init__" (defArgs s_m___init__) (defBody s_m___init__) (defScope s_m___init__) .none kV_m___init__ dc_m___init__ pm_m___init__ an_m___init__ cd_m___init__ ct_m___init__), sl_m___init__⟩)
    (c_m___init__ : PySem.W.codeIn K cd_m___init__ "Mended.__init__" = true)
    (k_m___init__ : PySem.W.keepIn K (.ref f_m___init__) = true)
    (a_m___eq__ : PySem.W.findIn K (.ref CM) "__eq__" = some (some (.ref f_m___eq__)))
    (i_m___eq__ : PySem.W.isFn K (.ref f_m___eq__) = true)
    (l_m___eq__ : K.lookup f_m___eq__ = some ⟨oc_m___eq__, od_m___eq__, .func (PySem.W.fnOf "__eq__" "Mended.__eq__" (defArgs s_m___eq__) (defBody s_m___eq__) (defScope s_m___eq__) .none kV_m___eq__ dc_m___eq__ pm_m___eq__ an_m___eq__ cd_m___eq__ ct_m___eq__), sl_m___eq__⟩)
    (c_m___eq__ : PySem.W.codeIn K cd_m___eq__ "Mended.__eq__" = true)
    (k_m___eq__ : PySem.W.keepIn K (.ref f_m___eq__) = true)
    (a_m_shows : PySem.W.findIn K (.ref CM) "shows" = some (some (.ref f_m_shows)))
    (i_m_shows : PySem.W.isFn K (.ref f_m_shows) = true)
    (l_m_shows : K.lookup f_m_shows = some ⟨oc_m_shows, od_m_shows, .func (PySem.W.fnOf "shows" "Mended.shows" (defArgs s_m_shows) (defBody s_m_shows) (defScope s_m_shows) .none (.ref D_m_shows) dc_m_shows pm_m_shows an_m_shows cd_m_shows ct_m_shows), sl_m_shows⟩)
    (c_m_shows : PySem.W.codeIn K cd_m_shows "Mended.shows" = true)
    (k_m_shows : PySem.W.keepIn K (.ref f_m_shows) = true)
    {tk_m_shows : Tok}
    (w_m_shows : PySem.W.nsIn K D_m_shows "arms" = some (some (.int 2 tk_m_shows)))
    (a_mend : PySem.W.nsIn K mainGlobals "mend" = some (some (.ref f_mend)))
    (l_mend : K.lookup f_mend = some ⟨oc_mend, od_mend, .func (PySem.W.fnOf "mend" "mend" (defArgs s_mend) (defBody s_mend) (defScope s_mend) .none (.ref D_mend) dc_mend pm_mend an_mend cd_mend ct_mend), sl_mend⟩)
    (c_mend : PySem.W.codeIn K cd_mend "mend" = true)
    (k_mend : PySem.W.keepIn K (.ref f_mend) = true)
    {tk_mend : Tok}
    (w_mend : PySem.W.nsIn K D_mend "arms" = some (some (.int 2 tk_mend)))
    (a_sets_to_keep : PySem.W.nsIn K mainGlobals "sets_to_keep" = some (some (.ref f_sets_to_keep)))
    (l_sets_to_keep : K.lookup f_sets_to_keep = some ⟨oc_sets_to_keep, od_sets_to_keep, .func (PySem.W.fnOf "sets_to_keep" "sets_to_keep" (defArgs s_sets_to_keep) (defBody s_sets_to_keep) (defScope s_sets_to_keep) .none kV_sets_to_keep dc_sets_to_keep pm_sets_to_keep an_sets_to_keep cd_sets_to_keep ct_sets_to_keep), sl_sets_to_keep⟩)
    (c_sets_to_keep : PySem.W.codeIn K cd_sets_to_keep "sets_to_keep" = true)
    (k_sets_to_keep : PySem.W.keepIn K (.ref f_sets_to_keep) = true)
    (a_mended_row : PySem.W.nsIn K mainGlobals "mended_row" = some (some (.ref f_mended_row)))
    (l_mended_row : K.lookup f_mended_row = some ⟨oc_mended_row, od_mended_row, .func (PySem.W.fnOf "mended_row" "mended_row" (defArgs s_mended_row) (defBody s_mended_row) (defScope s_mended_row) .none kV_mended_row dc_mended_row pm_mended_row an_mended_row cd_mended_row ct_mended_row), sl_mended_row⟩)
    (c_mended_row : PySem.W.codeIn K cd_mended_row "mended_row" = true)
    (k_mended_row : PySem.W.keepIn K (.ref f_mended_row) = true)
    (a_falling_chains : PySem.W.nsIn K mainGlobals "falling_chains" = some (some (.ref f_falling_chains)))
    (l_falling_chains : K.lookup f_falling_chains = some ⟨oc_falling_chains, od_falling_chains, .func (PySem.W.fnOf "falling_chains" "falling_chains" (defArgs s_falling_chains) (defBody s_falling_chains) (defScope s_falling_chains) .none kV_falling_chains dc_falling_chains pm_falling_chains an_falling_chains (.ref cc_falling_chains) ct_falling_chains), sl_falling_chains⟩)
    (c_falling_chains : PySem.W.codeIn K (.ref cc_falling_chains) "falling_chains" = true)
    (k_falling_chains : PySem.W.keepIn K (.ref f_falling_chains) = true)
    (a_is_rising : PySem.W.nsIn K mainGlobals "is_rising" = some (some (.ref f_is_rising)))
    (l_is_rising : K.lookup f_is_rising = some ⟨oc_is_rising, od_is_rising, .func (PySem.W.fnOf "is_rising" "is_rising" (defArgs s_is_rising) (defBody s_is_rising) (defScope s_is_rising) .none kV_is_rising dc_is_rising pm_is_rising an_is_rising cd_is_rising ct_is_rising), sl_is_rising⟩)
    (c_is_rising : PySem.W.codeIn K cd_is_rising "is_rising" = true)
    (k_is_rising : PySem.W.keepIn K (.ref f_is_rising) = true)
    (a_is_falling : PySem.W.nsIn K mainGlobals "is_falling" = some (some (.ref f_is_falling)))
    (l_is_falling : K.lookup f_is_falling = some ⟨oc_is_falling, od_is_falling, .func (PySem.W.fnOf "is_falling" "is_falling" (defArgs s_is_falling) (defBody s_is_falling) (defScope s_is_falling) .none kV_is_falling dc_is_falling pm_is_falling an_is_falling cd_is_falling ct_is_falling), sl_is_falling⟩)
    (c_is_falling : PySem.W.codeIn K cd_is_falling "is_falling" = true)
    (k_is_falling : PySem.W.keepIn K (.ref f_is_falling) = true)
    (a__law_number : PySem.W.nsIn K mainGlobals "_law_number" = some (some (.ref f__law_number)))
    (l__law_number : K.lookup f__law_number = some ⟨oc__law_number, od__law_number, .func (PySem.W.fnOf "_law_number" "_law_number" (defArgs s__law_number) (defBody s__law_number) (defScope s__law_number) .none kV__law_number dc__law_number pm__law_number an__law_number cd__law_number ct__law_number), sl__law_number⟩)
    (c__law_number : PySem.W.codeIn K cd__law_number "_law_number" = true)
    (k__law_number : PySem.W.keepIn K (.ref f__law_number) = true)
    (a__law_take : PySem.W.nsIn K mainGlobals "_law_take" = some (some (.ref f__law_take)))
    (l__law_take : K.lookup f__law_take = some ⟨oc__law_take, od__law_take, .func (PySem.W.fnOf "_law_take" "_law_take" (defArgs s__law_take) (defBody s__law_take) (defScope s__law_take) .none kV__law_take dc__law_take pm__law_take an__law_take cd__law_take ct__law_take), sl__law_take⟩)
    (c__law_take : PySem.W.codeIn K cd__law_take "_law_take" = true)
    (k__law_take : PySem.W.keepIn K (.ref f__law_take) = true)
    (a__law_pick : PySem.W.nsIn K mainGlobals "_law_pick" = some (some (.ref f__law_pick)))
    (l__law_pick : K.lookup f__law_pick = some ⟨oc__law_pick, od__law_pick, .func (PySem.W.fnOf "_law_pick" "_law_pick" (defArgs s__law_pick) (defBody s__law_pick) (defScope s__law_pick) .none kV__law_pick dc__law_pick pm__law_pick an__law_pick cd__law_pick ct__law_pick), sl__law_pick⟩)
    (c__law_pick : PySem.W.codeIn K cd__law_pick "_law_pick" = true)
    (k__law_pick : PySem.W.keepIn K (.ref f__law_pick) = true)
    (a__law_parent : PySem.W.nsIn K mainGlobals "_law_parent" = some (some (.ref f__law_parent)))
    (l__law_parent : K.lookup f__law_parent = some ⟨oc__law_parent, od__law_parent, .func (PySem.W.fnOf "_law_parent" "_law_parent" (defArgs s__law_parent) (defBody s__law_parent) (defScope s__law_parent) .none kV__law_parent dc__law_parent pm__law_parent an__law_parent cd__law_parent ct__law_parent), sl__law_parent⟩)
    (c__law_parent : PySem.W.codeIn K cd__law_parent "_law_parent" = true)
    (k__law_parent : PySem.W.keepIn K (.ref f__law_parent) = true)
    (a__law_way : PySem.W.nsIn K mainGlobals "_law_way" = some (some (.ref f__law_way)))
    (l__law_way : K.lookup f__law_way = some ⟨oc__law_way, od__law_way, .func (PySem.W.fnOf "_law_way" "_law_way" (defArgs s__law_way) (defBody s__law_way) (defScope s__law_way) .none kV__law_way dc__law_way pm__law_way an__law_way cd__law_way ct__law_way), sl__law_way⟩)
    (c__law_way : PySem.W.codeIn K cd__law_way "_law_way" = true)
    (k__law_way : PySem.W.keepIn K (.ref f__law_way) = true)
    (a__law_arms : PySem.W.nsIn K mainGlobals "_law_arms" = some (some (.ref f__law_arms)))
    (l__law_arms : K.lookup f__law_arms = some ⟨oc__law_arms, od__law_arms, .func (PySem.W.fnOf "_law_arms" "_law_arms" (defArgs s__law_arms) (defBody s__law_arms) (defScope s__law_arms) .none kV__law_arms dc__law_arms pm__law_arms an__law_arms cd__law_arms ct__law_arms), sl__law_arms⟩)
    (c__law_arms : PySem.W.codeIn K cd__law_arms "_law_arms" = true)
    (k__law_arms : PySem.W.keepIn K (.ref f__law_arms) = true)
    (a__law_keys : PySem.W.nsIn K mainGlobals "_law_keys" = some (some (.ref f__law_keys)))
    (l__law_keys : K.lookup f__law_keys = some ⟨oc__law_keys, od__law_keys, .func (PySem.W.fnOf "_law_keys" "_law_keys" (defArgs s__law_keys) (defBody s__law_keys) (defScope s__law_keys) .none kV__law_keys dc__law_keys pm__law_keys an__law_keys cd__law_keys ct__law_keys), sl__law_keys⟩)
    (c__law_keys : PySem.W.codeIn K cd__law_keys "_law_keys" = true)
    (k__law_keys : PySem.W.keepIn K (.ref f__law_keys) = true)
    (a__law_is_heap : PySem.W.nsIn K mainGlobals "_law_is_heap" = some (some (.ref f__law_is_heap)))
    (l__law_is_heap : K.lookup f__law_is_heap = some ⟨oc__law_is_heap, od__law_is_heap, .func (PySem.W.fnOf "_law_is_heap" "_law_is_heap" (defArgs s__law_is_heap) (defBody s__law_is_heap) (defScope s__law_is_heap) .none kV__law_is_heap dc__law_is_heap pm__law_is_heap an__law_is_heap cd__law_is_heap ct__law_is_heap), sl__law_is_heap⟩)
    (c__law_is_heap : PySem.W.codeIn K cd__law_is_heap "_law_is_heap" = true)
    (k__law_is_heap : PySem.W.keepIn K (.ref f__law_is_heap) = true)
    (a__law_are_chains : PySem.W.nsIn K mainGlobals "_law_are_chains" = some (some (.ref f__law_are_chains)))
    (l__law_are_chains : K.lookup f__law_are_chains = some ⟨oc__law_are_chains, od__law_are_chains, .func (PySem.W.fnOf "_law_are_chains" "_law_are_chains" (defArgs s__law_are_chains) (defBody s__law_are_chains) (defScope s__law_are_chains) .none kV__law_are_chains dc__law_are_chains pm__law_are_chains an__law_are_chains cd__law_are_chains ct__law_are_chains), sl__law_are_chains⟩)
    (c__law_are_chains : PySem.W.codeIn K cd__law_are_chains "_law_are_chains" = true)
    (k__law_are_chains : PySem.W.keepIn K (.ref f__law_are_chains) = true)
    (a__law_is_mended : PySem.W.nsIn K mainGlobals "_law_is_mended" = some (some (.ref f__law_is_mended)))
    (l__law_is_mended : K.lookup f__law_is_mended = some ⟨oc__law_is_mended, od__law_is_mended, .func (PySem.W.fnOf "_law_is_mended" "_law_is_mended" (defArgs s__law_is_mended) (defBody s__law_is_mended) (defScope s__law_is_mended) .none kV__law_is_mended dc__law_is_mended pm__law_is_mended an__law_is_mended cd__law_is_mended ct__law_is_mended), sl__law_is_mended⟩)
    (c__law_is_mended : PySem.W.codeIn K cd__law_is_mended "_law_is_mended" = true)
    (k__law_is_mended : PySem.W.keepIn K (.ref f__law_is_mended) = true)
    (a__law_loose : PySem.W.nsIn K mainGlobals "_law_loose" = some (some (.ref f__law_loose)))
    (l__law_loose : K.lookup f__law_loose = some ⟨oc__law_loose, od__law_loose, .func (PySem.W.fnOf "_law_loose" "_law_loose" (defArgs s__law_loose) (defBody s__law_loose) (defScope s__law_loose) .none kV__law_loose dc__law_loose pm__law_loose an__law_loose cd__law_loose ct__law_loose), sl__law_loose⟩)
    (c__law_loose : PySem.W.codeIn K cd__law_loose "_law_loose" = true)
    (k__law_loose : PySem.W.keepIn K (.ref f__law_loose) = true)
    (a__law_parts : PySem.W.nsIn K mainGlobals "_law_parts" = some (some (.ref f__law_parts)))
    (l__law_parts : K.lookup f__law_parts = some ⟨oc__law_parts, od__law_parts, .func (PySem.W.fnOf "_law_parts" "_law_parts" (defArgs s__law_parts) (defBody s__law_parts) (defScope s__law_parts) .none kV__law_parts dc__law_parts pm__law_parts an__law_parts cd__law_parts ct__law_parts), sl__law_parts⟩)
    (c__law_parts : PySem.W.codeIn K cd__law_parts "_law_parts" = true)
    (k__law_parts : PySem.W.keepIn K (.ref f__law_parts) = true)
    (a_law : PySem.W.nsIn K mainGlobals "law" = some (some (.ref f_law)))
    (l_law : K.lookup f_law = some ⟨oc_law, od_law, .func (PySem.W.fnOf "law" "law" (defArgs s_law) (defBody s_law) (defScope s_law) .none kV_law dc_law pm_law an_law cd_law ct_law), sl_law⟩)
    (c_law : PySem.W.codeIn K cd_law "law" = true)
    (k_law : PySem.W.keepIn K (.ref f_law) = true)
    {tc_GREATEST_KEY : Tok}
    (q_GREATEST_KEY : PySem.W.nsIn K mainGlobals "GREATEST_KEY" = some (some (.int 1000000000 tc_GREATEST_KEY)))
    {tc_MOST_ARMS : Tok}
    (q_MOST_ARMS : PySem.W.nsIn K mainGlobals "MOST_ARMS" = some (some (.int 4 tc_MOST_ARMS)))
    {tc_MOST_PLACES : Tok}
    (q_MOST_PLACES : PySem.W.nsIn K mainGlobals "MOST_PLACES" = some (some (.int 12 tc_MOST_PLACES)))
    (z_all : PySem.W.nsIn K mainGlobals "all" = some none)
    (z_any : PySem.W.nsIn K mainGlobals "any" = some none)
    (z_bool : PySem.W.nsIn K mainGlobals "bool" = some none)
    (z_enumerate : PySem.W.nsIn K mainGlobals "enumerate" = some none)
    (z_int : PySem.W.nsIn K mainGlobals "int" = some none)
    (z_isinstance : PySem.W.nsIn K mainGlobals "isinstance" = some none)
    (z_iter : PySem.W.nsIn K mainGlobals "iter" = some none)
    (z_len : PySem.W.nsIn K mainGlobals "len" = some none)
    (z_list : PySem.W.nsIn K mainGlobals "list" = some none)
    (z_max : PySem.W.nsIn K mainGlobals "max" = some none)
    (z_min : PySem.W.nsIn K mainGlobals "min" = some none)
    (z_range : PySem.W.nsIn K mainGlobals "range" = some none)
    (z_reversed : PySem.W.nsIn K mainGlobals "reversed" = some none)
    (z_sorted : PySem.W.nsIn K mainGlobals "sorted" = some none)
    (z_sum : PySem.W.nsIn K mainGlobals "sum" = some none)
    (z_tuple : PySem.W.nsIn K mainGlobals "tuple" = some none)
    (z_zip : PySem.W.nsIn K mainGlobals "zip" = some none)
    (pg : PySem.W.plainGet K C Str.empty = true)
    (hd : PySem.W.hasDictIn K C = true)
    (po_ : PySem.W.plainOver K C = true)
    (sa : PySem.W.findIn K (.ref C) "__setattr__" = some (some (.builtin "object.__setattr__")))
    (na_nMany : PySem.W.findIn K (.ref C) "many" = some none)
    (na_nArms : PySem.W.findIn K (.ref C) "arms" = some none)
    (na_nPl : PySem.W.findIn K (.ref C) "_places" = some none)
    (mk : PySem.W.makesIn K C = true)
    (kc : PySem.W.keepIn K (.ref C) = true)
    (rd : PySem.W.readsIn K C (.type "type") = true)
    (ga : PySem.W.specialIn K (.ref C) "__getattribute__" = some (some (.builtin "type.__getattribute__")))
    (pgM : PySem.W.plainGet K CM Str.empty = true)
    (hdM : PySem.W.hasDictIn K CM = true)
    (po_M : PySem.W.plainOver K CM = true)
    (saM : PySem.W.findIn K (.ref CM) "__setattr__" = some (some (.builtin "object.__setattr__")))
    (na_mRow : PySem.W.findIn K (.ref CM) "row" = some none)
    (na_mKept : PySem.W.findIn K (.ref CM) "kept" = some none)
    (na_mChains : PySem.W.findIn K (.ref CM) "chains" = some none)
    (mkM : PySem.W.makesIn K CM = true)
    (kcM : PySem.W.keepIn K (.ref CM) = true)
    (eneM : PySem.W.findIn K (.ref CM) "__ne__" = some (some (.builtin "object.__ne__")))
    (eobM : PySem.W.subIn K (.ref CM) (.type "object") = some true)
    (eniM : PySem.W.subIn K (.type "int") (.ref CM) = some false)
    (entM : PySem.W.subIn K (.type "tuple") (.ref CM) = some false)
    (kaM : PySem.W.findIn K (.ref CM) "__class__" = some (some (.builtin "object.__class__")))
    (knM : PySem.W.specialIn K (.builtin "object.__class__") "__get__" = some (some (.builtin "getset_descriptor.__get__")))
    (ktkM : PySem.W.takesIn K (.builtin "object.__class__") = some true)
    (kmM : PySem.W.mroIn K CM (.type "object") = some true)
    (kclM : PySem.W.isClsIn K CM = true)
    (ktyM : PySem.W.typeIn K (.ref CM) = some (.type "type"))
    (hT_falling_chains : h.get? PP_falling_chains = some (PySem.W.tabObj #[])) (hC_falling_chains : PySem.W.codeHdIn K cc_falling_chains PP_falling_chains = true) (hN_falling_chains : K.lookup PP_falling_chains = none)
    : LamX.LawAtS l w K CX0 16 63 "script" mg fa h := by
  have e := hfa.symm.trans (PySem.W.mg_of X G a_law)
  cases e
  let A : Ad := { f_is_integer := f_is_integer, d_is_integer := (PySem.W.fnOf "is_integer" "is_integer" (defArgs s_is_integer) (defBody s_is_integer) (defScope s_is_integer) .none kV_is_integer dc_is_integer pm_is_integer an_is_integer cd_is_integer ct_is_integer), f_is_integer_from := f_is_integer_from, d_is_integer_from := (PySem.W.fnOf "is_integer_from" "is_integer_from" (defArgs s_is_integer_from) (defBody s_is_integer_from) (defScope s_is_integer_from) .none kV_is_integer_from dc_is_integer_from pm_is_integer_from an_is_integer_from cd_is_integer_from ct_is_integer_from), f_is_key := f_is_key, d_is_key := (PySem.W.fnOf "is_key" "is_key" (defArgs s_is_key) (defBody s_is_key) (defScope s_is_key) .none kV_is_key dc_is_key pm_is_key an_is_key cd_is_key ct_is_key), f_check_arms := f_check_arms, d_check_arms := (PySem.W.fnOf "check_arms" "check_arms" (defArgs s_check_arms) (defBody s_check_arms) (defScope s_check_arms) .none kV_check_arms dc_check_arms pm_check_arms an_check_arms cd_check_arms ct_check_arms), f_check_many := f_check_many, d_check_many := (PySem.W.fnOf "check_many" "check_many" (defArgs s_check_many) (defBody s_check_many) (defScope s_check_many) .none kV_check_many dc_check_many pm_check_many an_check_many cd_check_many ct_check_many), f_check_place := f_check_place, d_check_place := (PySem.W.fnOf "check_place" "check_place" (defArgs s_check_place) (defBody s_check_place) (defScope s_check_place) .none kV_check_place dc_check_place pm_check_place an_check_place cd_check_place ct_check_place), f_row_of := f_row_of, d_row_of := (PySem.W.fnOf "row_of" "row_of" (defArgs s_row_of) (defBody s_row_of) (defScope s_row_of) .none kV_row_of dc_row_of pm_row_of an_row_of cd_row_of ct_row_of), f_t___init__ := f_t___init__, d_t___init__ := (PySem.W.fnOf "__init__" "Tree.__init__" (defArgs s_t___init__) (defBody s_t___init__) (defScope s_t___init__) .none (.ref D_t___init__) dc_t___init__ pm_t___init__ an_t___init__ cd_t___init__ ct_t___init__), f_t_of := f_t_of, d_t_of := (PySem.W.fnOf "of" "Tree.of" (defArgs s_t_of) (defBody s_t_of) (defScope s_t_of) .none (.ref D_t_of) dc_t_of pm_t_of an_t_of cd_t_of ct_t_of), f_t___len__ := f_t___len__, d_t___len__ := (PySem.W.fnOf "__len__" "Tree.__len__" (defArgs s_t___len__) (defBody s_t___len__) (defScope s_t___len__) .none kV_t___len__ dc_t___len__ pm_t___len__ an_t___len__ cd_t___len__ ct_t___len__), f_t___contains__ := f_t___contains__, d_t___contains__ := (PySem.W.fnOf "__contains__" "Tree.__contains__" (defArgs s_t___contains__) (defBody s_t___contains__) (defScope s_t___contains__) .none kV_t___contains__ dc_t___contains__ pm_t___contains__ an_t___contains__ cd_t___contains__ ct_t___contains__), f_t___iter__ := f_t___iter__, d_t___iter__ := (PySem.W.fnOf "__iter__" "Tree.__iter__" (defArgs s_t___iter__) (defBody s_t___iter__) (defScope s_t___iter__) .none kV_t___iter__ dc_t___iter__ pm_t___iter__ an_t___iter__ cd_t___iter__ ct_t___iter__), f_t___getitem__ := f_t___getitem__, d_t___getitem__ := (PySem.W.fnOf "__getitem__" "Tree.__getitem__" (defArgs s_t___getitem__) (defBody s_t___getitem__) (defScope s_t___getitem__) .none kV_t___getitem__ dc_t___getitem__ pm_t___getitem__ an_t___getitem__ cd_t___getitem__ ct_t___getitem__), f_t_parent := f_t_parent, d_t_parent := (PySem.W.fnOf "parent" "Tree.parent" (defArgs s_t_parent) (defBody s_t_parent) (defScope s_t_parent) .none kV_t_parent dc_t_parent pm_t_parent an_t_parent cd_t_parent ct_t_parent), f_t_way_to := f_t_way_to, d_t_way_to := (PySem.W.fnOf "way_to" "Tree.way_to" (defArgs s_t_way_to) (defBody s_t_way_to) (defScope s_t_way_to) .none kV_t_way_to dc_t_way_to pm_t_way_to an_t_way_to cd_t_way_to ct_t_way_to), f_t_subtree := f_t_subtree, d_t_subtree := (PySem.W.fnOf "subtree" "Tree.subtree" (defArgs s_t_subtree) (defBody s_t_subtree) (defScope s_t_subtree) .none kV_t_subtree dc_t_subtree pm_t_subtree an_t_subtree cd_t_subtree ct_t_subtree), f_m___init__ := f_m___init__, d_m___init__ := (PySem.W.fnOf "__init__" "Mended.__init__" (defArgs s_m___init__) (defBody s_m___init__) (defScope s_m___init__) .none kV_m___init__ dc_m___init__ pm_m___init__ an_m___init__ cd_m___init__ ct_m___init__), f_m___eq__ := f_m___eq__, d_m___eq__ := (PySem.W.fnOf "__eq__" "Mended.__eq__" (defArgs s_m___eq__) (defBody s_m___eq__) (defScope s_m___eq__) .none kV_m___eq__ dc_m___eq__ pm_m___eq__ an_m___eq__ cd_m___eq__ ct_m___eq__), f_m_shows := f_m_shows, d_m_shows := (PySem.W.fnOf "shows" "Mended.shows" (defArgs s_m_shows) (defBody s_m_shows) (defScope s_m_shows) .none (.ref D_m_shows) dc_m_shows pm_m_shows an_m_shows cd_m_shows ct_m_shows), f_mend := f_mend, d_mend := (PySem.W.fnOf "mend" "mend" (defArgs s_mend) (defBody s_mend) (defScope s_mend) .none (.ref D_mend) dc_mend pm_mend an_mend cd_mend ct_mend), f_sets_to_keep := f_sets_to_keep, d_sets_to_keep := (PySem.W.fnOf "sets_to_keep" "sets_to_keep" (defArgs s_sets_to_keep) (defBody s_sets_to_keep) (defScope s_sets_to_keep) .none kV_sets_to_keep dc_sets_to_keep pm_sets_to_keep an_sets_to_keep cd_sets_to_keep ct_sets_to_keep), f_mended_row := f_mended_row, d_mended_row := (PySem.W.fnOf "mended_row" "mended_row" (defArgs s_mended_row) (defBody s_mended_row) (defScope s_mended_row) .none kV_mended_row dc_mended_row pm_mended_row an_mended_row cd_mended_row ct_mended_row), f_falling_chains := f_falling_chains, d_falling_chains := (PySem.W.fnOf "falling_chains" "falling_chains" (defArgs s_falling_chains) (defBody s_falling_chains) (defScope s_falling_chains) .none kV_falling_chains dc_falling_chains pm_falling_chains an_falling_chains (.ref cc_falling_chains) ct_falling_chains), f_is_rising := f_is_rising, d_is_rising := (PySem.W.fnOf "is_rising" "is_rising" (defArgs s_is_rising) (defBody s_is_rising) (defScope s_is_rising) .none kV_is_rising dc_is_rising pm_is_rising an_is_rising cd_is_rising ct_is_rising), f_is_falling := f_is_falling, d_is_falling := (PySem.W.fnOf "is_falling" "is_falling" (defArgs s_is_falling) (defBody s_is_falling) (defScope s_is_falling) .none kV_is_falling dc_is_falling pm_is_falling an_is_falling cd_is_falling ct_is_falling), f__law_number := f__law_number, d__law_number := (PySem.W.fnOf "_law_number" "_law_number" (defArgs s__law_number) (defBody s__law_number) (defScope s__law_number) .none kV__law_number dc__law_number pm__law_number an__law_number cd__law_number ct__law_number), f__law_take := f__law_take, d__law_take := (PySem.W.fnOf "_law_take" "_law_take" (defArgs s__law_take) (defBody s__law_take) (defScope s__law_take) .none kV__law_take dc__law_take pm__law_take an__law_take cd__law_take ct__law_take), f__law_pick := f__law_pick, d__law_pick := (PySem.W.fnOf "_law_pick" "_law_pick" (defArgs s__law_pick) (defBody s__law_pick) (defScope s__law_pick) .none kV__law_pick dc__law_pick pm__law_pick an__law_pick cd__law_pick ct__law_pick), f__law_parent := f__law_parent, d__law_parent := (PySem.W.fnOf "_law_parent" "_law_parent" (defArgs s__law_parent) (defBody s__law_parent) (defScope s__law_parent) .none kV__law_parent dc__law_parent pm__law_parent an__law_parent cd__law_parent ct__law_parent), f__law_way := f__law_way, d__law_way := (PySem.W.fnOf "_law_way" "_law_way" (defArgs s__law_way) (defBody s__law_way) (defScope s__law_way) .none kV__law_way dc__law_way pm__law_way an__law_way cd__law_way ct__law_way), f__law_arms := f__law_arms, d__law_arms := (PySem.W.fnOf "_law_arms" "_law_arms" (defArgs s__law_arms) (defBody s__law_arms) (defScope s__law_arms) .none kV__law_arms dc__law_arms pm__law_arms an__law_arms cd__law_arms ct__law_arms), f__law_keys := f__law_keys, d__law_keys := (PySem.W.fnOf "_law_keys" "_law_keys" (defArgs s__law_keys) (defBody s__law_keys) (defScope s__law_keys) .none kV__law_keys dc__law_keys pm__law_keys an__law_keys cd__law_keys ct__law_keys), f__law_is_heap := f__law_is_heap, d__law_is_heap := (PySem.W.fnOf "_law_is_heap" "_law_is_heap" (defArgs s__law_is_heap) (defBody s__law_is_heap) (defScope s__law_is_heap) .none kV__law_is_heap dc__law_is_heap pm__law_is_heap an__law_is_heap cd__law_is_heap ct__law_is_heap), f__law_are_chains := f__law_are_chains, d__law_are_chains := (PySem.W.fnOf "_law_are_chains" "_law_are_chains" (defArgs s__law_are_chains) (defBody s__law_are_chains) (defScope s__law_are_chains) .none kV__law_are_chains dc__law_are_chains pm__law_are_chains an__law_are_chains cd__law_are_chains ct__law_are_chains), f__law_is_mended := f__law_is_mended, d__law_is_mended := (PySem.W.fnOf "_law_is_mended" "_law_is_mended" (defArgs s__law_is_mended) (defBody s__law_is_mended) (defScope s__law_is_mended) .none kV__law_is_mended dc__law_is_mended pm__law_is_mended an__law_is_mended cd__law_is_mended ct__law_is_mended), f__law_loose := f__law_loose, d__law_loose := (PySem.W.fnOf "_law_loose" "_law_loose" (defArgs s__law_loose) (defBody s__law_loose) (defScope s__law_loose) .none kV__law_loose dc__law_loose pm__law_loose an__law_loose cd__law_loose ct__law_loose), f__law_parts := f__law_parts, d__law_parts := (PySem.W.fnOf "_law_parts" "_law_parts" (defArgs s__law_parts) (defBody s__law_parts) (defScope s__law_parts) .none kV__law_parts dc__law_parts pm__law_parts an__law_parts cd__law_parts ct__law_parts), f_law := fa, d_law := (PySem.W.fnOf "law" "law" (defArgs s_law) (defBody s_law) (defScope s_law) .none kV_law dc_law pm_law an_law cd_law ct_law), C := C, CM := CM, po := po, c_falling_chains := cc_falling_chains, P_falling_chains := PP_falling_chains }
  have T : Tx K mg A := {
    F_is_integer := (fun_mk (st := s_is_integer) l_is_integer c_is_integer k_is_integer)
    m_is_integer := PySem.W.mg_of X G a_is_integer
    F_is_integer_from := (fun_mk (st := s_is_integer_from) l_is_integer_from c_is_integer_from k_is_integer_from)
    m_is_integer_from := PySem.W.mg_of X G a_is_integer_from
    F_is_key := (fun_mk (st := s_is_key) l_is_key c_is_key k_is_key)
    m_is_key := PySem.W.mg_of X G a_is_key
    F_check_arms := (fun_mk (st := s_check_arms) l_check_arms c_check_arms k_check_arms)
    m_check_arms := PySem.W.mg_of X G a_check_arms
    F_check_many := (fun_mk (st := s_check_many) l_check_many c_check_many k_check_many)
    m_check_many := PySem.W.mg_of X G a_check_many
    F_check_place := (fun_mk (st := s_check_place) l_check_place c_check_place k_check_place)
    m_check_place := PySem.W.mg_of X G a_check_place
    F_row_of := (fun_mk (st := s_row_of) l_row_of c_row_of k_row_of)
    m_row_of := PySem.W.mg_of X G a_row_of
    F_t___init__ := ⟨⟨_, _, _, _, _, _, _, _, _, _, rfl, l_t___init__, c_t___init__, .inl ⟨rfl, rfl⟩, .inr ⟨_, rfl, fun q hq => by rw [List.mem_singleton.mp hq]; exact ⟨_, w_t___init__, relI _ _⟩⟩⟩, k_t___init__⟩
    F_t_of := ⟨⟨_, _, _, _, _, _, _, _, _, _, rfl, l_t_of, c_t_of, .inl ⟨rfl, rfl⟩, .inr ⟨_, rfl, fun q hq => by rw [List.mem_singleton.mp hq]; exact ⟨_, w_t_of, relI _ _⟩⟩⟩, k_t_of⟩
    F_t___len__ := (fun_mk (st := s_t___len__) l_t___len__ c_t___len__ k_t___len__)
    D_t___len__ := ⟨a_t___len__, i_t___len__, n_t___len__⟩
    F_t___contains__ := (fun_mk (st := s_t___contains__) l_t___contains__ c_t___contains__ k_t___contains__)
    D_t___contains__ := ⟨a_t___contains__, i_t___contains__, n_t___contains__⟩
    F_t___iter__ := (fun_mk (st := s_t___iter__) l_t___iter__ c_t___iter__ k_t___iter__)
    D_t___iter__ := ⟨a_t___iter__, i_t___iter__, n_t___iter__⟩
    F_t___getitem__ := (fun_mk (st := s_t___getitem__) l_t___getitem__ c_t___getitem__ k_t___getitem__)
    D_t___getitem__ := ⟨a_t___getitem__, i_t___getitem__, n_t___getitem__⟩
    F_t_parent := (fun_mk (st := s_t_parent) l_t_parent c_t_parent k_t_parent)
    M_t_parent := ⟨a_t_parent, i_t_parent, k_t_parent⟩
    F_t_way_to := (fun_mk (st := s_t_way_to) l_t_way_to c_t_way_to k_t_way_to)
    M_t_way_to := ⟨a_t_way_to, i_t_way_to, k_t_way_to⟩
    F_t_subtree := (fun_mk (st := s_t_subtree) l_t_subtree c_t_subtree k_t_subtree)
    M_t_subtree := ⟨a_t_subtree, i_t_subtree, k_t_subtree⟩
    F_m___init__ := (fun_mk (st := s_m___init__) l_m___init__ c_m___init__ k_m___init__)
    F_m___eq__ := (fun_mk (st := s_m___eq__) l_m___eq__ c_m___eq__ k_m___eq__)
    F_m_shows := ⟨⟨_, _, _, _, _, _, _, _, _, _, rfl, l_m_shows, c_m_shows, .inl ⟨rfl, rfl⟩, .inr ⟨_, rfl, fun q hq => by rw [List.mem_singleton.mp hq]; exact ⟨_, w_m_shows, relI _ _⟩⟩⟩, k_m_shows⟩
    M_m_shows := ⟨a_m_shows, i_m_shows, k_m_shows⟩
    F_mend := ⟨⟨_, _, _, _, _, _, _, _, _, _, rfl, l_mend, c_mend, .inl ⟨rfl, rfl⟩, .inr ⟨_, rfl, fun q hq => by rw [List.mem_singleton.mp hq]; exact ⟨_, w_mend, relI _ _⟩⟩⟩, k_mend⟩
    m_mend := PySem.W.mg_of X G a_mend
    F_sets_to_keep := (fun_mk (st := s_sets_to_keep) l_sets_to_keep c_sets_to_keep k_sets_to_keep)
    m_sets_to_keep := PySem.W.mg_of X G a_sets_to_keep
    F_mended_row := (fun_mk (st := s_mended_row) l_mended_row c_mended_row k_mended_row)
    m_mended_row := PySem.W.mg_of X G a_mended_row
    L_falling_chains := ⟨_, _, _, _, _, _, _, _, rfl, l_falling_chains, c_falling_chains⟩
    F_falling_chains := (fun_mk (st := s_falling_chains) l_falling_chains c_falling_chains k_falling_chains)
    m_falling_chains := PySem.W.mg_of X G a_falling_chains
    F_is_rising := (fun_mk (st := s_is_rising) l_is_rising c_is_rising k_is_rising)
    m_is_rising := PySem.W.mg_of X G a_is_rising
    F_is_falling := (fun_mk (st := s_is_falling) l_is_falling c_is_falling k_is_falling)
    m_is_falling := PySem.W.mg_of X G a_is_falling
    F__law_number := (fun_mk (st := s__law_number) l__law_number c__law_number k__law_number)
    m__law_number := PySem.W.mg_of X G a__law_number
    F__law_take := (fun_mk (st := s__law_take) l__law_take c__law_take k__law_take)
    m__law_take := PySem.W.mg_of X G a__law_take
    F__law_pick := (fun_mk (st := s__law_pick) l__law_pick c__law_pick k__law_pick)
    m__law_pick := PySem.W.mg_of X G a__law_pick
    F__law_parent := (fun_mk (st := s__law_parent) l__law_parent c__law_parent k__law_parent)
    m__law_parent := PySem.W.mg_of X G a__law_parent
    F__law_way := (fun_mk (st := s__law_way) l__law_way c__law_way k__law_way)
    m__law_way := PySem.W.mg_of X G a__law_way
    F__law_arms := (fun_mk (st := s__law_arms) l__law_arms c__law_arms k__law_arms)
    m__law_arms := PySem.W.mg_of X G a__law_arms
    F__law_keys := (fun_mk (st := s__law_keys) l__law_keys c__law_keys k__law_keys)
    m__law_keys := PySem.W.mg_of X G a__law_keys
    F__law_is_heap := (fun_mk (st := s__law_is_heap) l__law_is_heap c__law_is_heap k__law_is_heap)
    m__law_is_heap := PySem.W.mg_of X G a__law_is_heap
    F__law_are_chains := (fun_mk (st := s__law_are_chains) l__law_are_chains c__law_are_chains k__law_are_chains)
    m__law_are_chains := PySem.W.mg_of X G a__law_are_chains
    F__law_is_mended := (fun_mk (st := s__law_is_mended) l__law_is_mended c__law_is_mended k__law_is_mended)
    m__law_is_mended := PySem.W.mg_of X G a__law_is_mended
    F__law_loose := (fun_mk (st := s__law_loose) l__law_loose c__law_loose k__law_loose)
    m__law_loose := PySem.W.mg_of X G a__law_loose
    F__law_parts := (fun_mk (st := s__law_parts) l__law_parts c__law_parts k__law_parts)
    m__law_parts := PySem.W.mg_of X G a__law_parts
    F_law := (fun_mk (st := s_law) l_law c_law k_law)
    m_law := PySem.W.mg_of X G a_law
    c_GREATEST_KEY := .inr ⟨_, PySem.W.mg_of X G q_GREATEST_KEY⟩
    c_MOST_ARMS := .inr ⟨_, PySem.W.mg_of X G q_MOST_ARMS⟩
    c_MOST_PLACES := .inr ⟨_, PySem.W.mg_of X G q_MOST_PLACES⟩
    g_all := PySem.W.mg_none_of X G z_all
    g_any := PySem.W.mg_none_of X G z_any
    g_bool := PySem.W.mg_none_of X G z_bool
    g_enumerate := PySem.W.mg_none_of X G z_enumerate
    g_int := PySem.W.mg_none_of X G z_int
    g_isinstance := PySem.W.mg_none_of X G z_isinstance
    g_iter := PySem.W.mg_none_of X G z_iter
    g_len := PySem.W.mg_none_of X G z_len
    g_list := PySem.W.mg_none_of X G z_list
    g_max := PySem.W.mg_none_of X G z_max
    g_min := PySem.W.mg_none_of X G z_min
    g_range := PySem.W.mg_none_of X G z_range
    g_reversed := PySem.W.mg_none_of X G z_reversed
    g_sorted := PySem.W.mg_none_of X G z_sorted
    g_sum := PySem.W.mg_none_of X G z_sum
    g_tuple := PySem.W.mg_none_of X G z_tuple
    g_zip := PySem.W.mg_none_of X G z_zip
    cT := ⟨pg, hd, po_, sa⟩
    nMany := na_nMany
    nArms := na_nArms
    nPl := na_nPl
    mC := PySem.W.mg_of X G aC
    mkC := ⟨mk, a_t___init__, i_t___init__, kc⟩
    cr := ⟨rd, ga⟩
    cof := ⟨a_t_of, ⟨_, r_t_of⟩, n_t_of⟩
    cTM := ⟨pgM, hdM, po_M, saM⟩
    mRow := na_mRow
    mKept := na_mKept
    mChains := na_mChains
    mCM := PySem.W.mg_of X G aCM
    mkCM := ⟨mkM, a_m___init__, i_m___init__, kcM⟩
    eqcM := ⟨a_m___eq__, i_m___eq__, eneM, eobM, eniM, entM⟩
    kaM := kaM
    knM := knM
    ktkM := ktkM
    kmM := kmM
    kiM_int := kit_no kclM ktyM eniM
    kiM_tuple := kit_no kclM ktyM entM
  }
  refine ⟨A.d_law, [(cc_falling_chains, PP_falling_chains)], spLaw K A, fun p hp => by
    simp only [List.mem_cons, List.not_mem_nil, or_false] at hp
    rcases hp with rfl
    · exact hT_falling_chains, ?_, ?_, fun s v => .of_eq rfl, fun H a ns hl hb hH hS => ⟨a, ns, rfl, hS, hl, fun p hp => ?_, fun _ => rfl⟩, fun base _ _ hTB => ok_law T (hTB (cc_falling_chains, PP_falling_chains) (by simp))⟩
  · exact fun p hp => by
      simp only [List.mem_cons, List.not_mem_nil, or_false] at hp
      rcases hp with rfl
      · exact hN_falling_chains
  · exact fun p hp => by
      simp only [List.mem_cons, List.not_mem_nil, or_false] at hp
      rcases hp with rfl
      · exact PySem.W.codeHd_of_K X hC_falling_chains
  · unfold TT at hp
    simp only [List.mem_cons, List.not_mem_nil, or_false] at hp
    rcases hp with rfl
    · exact LamX.TabS.nil (hH (cc_falling_chains, PP_falling_chains) (by simp))
theorem walk {l : PySem.W.OpenLaw} {q : Program} {loose : List Str} {XP : (Str → Option Value) → Heap → Prop} {YP : World → Heap → Prop} {d : DefRec} {K : Params → PySem.W.Frag} (hn : l.most = some 63) (hdf : d.params.defaults = [])
    (hY : ∀ (w : World) (h : Heap), YP w h → (K w.params).In h)
    (F : ∀ (w : World) (mg : Str → Option Value) (fa : Addr) (h : Heap), YP w h → (K w.params).In h → h.Ns mainGlobals mg → mg d.name = some (.ref fa) → LamX.LawAtS l w (K w.params) CX0 16 63 "script" mg fa h) :
    PySem.W.WalkO q loose XP YP l.row.toRowW d [] (fun f vs => PySem.call f vs) :=
  LamX.walk_ofTs (n := 63) (k := 16) (x := "script") (CX := fun _ => CX0) hn (by decide) hdf ⟨rfl, by decide, by decide⟩ hY F fun _ _ _ _ _ z => z
end Tw

set_option Elab.async false
set_option linter.all false
set_option maxRecDepth 100000
set_option maxHeartbeats 2000000
namespace Tw
open PySem PySem.Spec PyProof.Rows L2
set_option maxHeartbeats 0
abbrev R0 : PySem.W.OpenRow := PySem.W.OpenLaw.row PySem.Challenge.rw_heaprows_k30_whole_mended_shown
def q_is_integer : Sh.FnA := ⟨fun K => (Sh.gA K "is_integer"), "is_integer", "is_integer", defArgs s_is_integer, defBody s_is_integer, defScope s_is_integer⟩
def q_is_integer_from : Sh.FnA := ⟨fun K => (Sh.gA K "is_integer_from"), "is_integer_from", "is_integer_from", defArgs s_is_integer_from, defBody s_is_integer_from, defScope s_is_integer_from⟩
def q_is_key : Sh.FnA := ⟨fun K => (Sh.gA K "is_key"), "is_key", "is_key", defArgs s_is_key, defBody s_is_key, defScope s_is_key⟩
def q_check_arms : Sh.FnA := ⟨fun K => (Sh.gA K "check_arms"), "check_arms", "check_arms", defArgs s_check_arms, defBody s_check_arms, defScope s_check_arms⟩
def q_check_many : Sh.FnA := ⟨fun K => (Sh.gA K "check_many"), "check_many", "check_many", defArgs s_check_many, defBody s_check_many, defScope s_check_many⟩
def q_check_place : Sh.FnA := ⟨fun K => (Sh.gA K "check_place"), "check_place", "check_place", defArgs s_check_place, defBody s_check_place, defScope s_check_place⟩
def q_row_of : Sh.FnA := ⟨fun K => (Sh.gA K "row_of"), "row_of", "row_of", defArgs s_row_of, defBody s_row_of, defScope s_row_of⟩
def q_t___init__ : Sh.FnA := ⟨fun K => (Sh.mA K (Sh.gA K "Tree") "__init__"), "__init__", "Tree.__init__", defArgs s_t___init__, defBody s_t___init__, defScope s_t___init__⟩
def q_t_of : Sh.FnA := ⟨fun K => (Sh.recA K (Sh.clsA K (Sh.gA K "Tree") "of") "classmethod"), "of", "Tree.of", defArgs s_t_of, defBody s_t_of, defScope s_t_of⟩
def q_t___len__ : Sh.FnA := ⟨fun K => (Sh.mA K (Sh.gA K "Tree") "__len__"), "__len__", "Tree.__len__", defArgs s_t___len__, defBody s_t___len__, defScope s_t___len__⟩
def q_t___contains__ : Sh.FnA := ⟨fun K => (Sh.mA K (Sh.gA K "Tree") "__contains__"), "__contains__", "Tree.__contains__", defArgs s_t___contains__, defBody s_t___contains__, defScope s_t___contains__⟩
def q_t___iter__ : Sh.FnA := ⟨fun K => (Sh.mA K (Sh.gA K "Tree") "__iter__"), "__iter__", "Tree.__iter__", defArgs s_t___iter__, defBody s_t___iter__, defScope s_t___iter__⟩
def q_t___getitem__ : Sh.FnA := ⟨fun K => (Sh.mA K (Sh.gA K "Tree") "__getitem__"), "__getitem__", "Tree.__getitem__", defArgs s_t___getitem__, defBody s_t___getitem__, defScope s_t___getitem__⟩
def q_t_parent : Sh.FnA := ⟨fun K => (Sh.mA K (Sh.gA K "Tree") "parent"), "parent", "Tree.parent", defArgs s_t_parent, defBody s_t_parent, defScope s_t_parent⟩
def q_t_way_to : Sh.FnA := ⟨fun K => (Sh.mA K (Sh.gA K "Tree") "way_to"), "way_to", "Tree.way_to", defArgs s_t_way_to, defBody s_t_way_to, defScope s_t_way_to⟩
def q_t_subtree : Sh.FnA := ⟨fun K => (Sh.mA K (Sh.gA K "Tree") "subtree"), "subtree", "Tree.subtree", defArgs s_t_subtree, defBody s_t_subtree, defScope s_t_subtree⟩
def q_m___init__ : Sh.FnA := ⟨fun K => (Sh.mA K (Sh.gA K "Mended") "__init__"), "__init__", "Mended.__init__", defArgs s_m___init__, defBody s_m___init__, defScope s_m___init__⟩
def q_m___eq__ : Sh.FnA := ⟨fun K => (Sh.mA K (Sh.gA K "Mended") "__eq__"), "__eq__", "Mended.__eq__", defArgs s_m___eq__, defBody s_m___eq__, defScope s_m___eq__⟩
def q_m_shows : Sh.FnA := ⟨fun K => (Sh.mA K (Sh.gA K "Mended") "shows"), "shows", "Mended.shows", defArgs s_m_shows, defBody s_m_shows, defScope s_m_shows⟩
def q_mend : Sh.FnA := ⟨fun K => (Sh.gA K "mend"), "mend", "mend", defArgs s_mend, defBody s_mend, defScope s_mend⟩
def q_sets_to_keep : Sh.FnA := ⟨fun K => (Sh.gA K "sets_to_keep"), "sets_to_keep", "sets_to_keep", defArgs s_sets_to_keep, defBody s_sets_to_keep, defScope s_sets_to_keep⟩
def q_mended_row : Sh.FnA := ⟨fun K => (Sh.gA K "mended_row"), "mended_row", "mended_row", defArgs s_mended_row, defBody s_mended_row, defScope s_mended_row⟩
def q_falling_chains : Sh.FnA := ⟨fun K => (Sh.gA K "falling_chains"), "falling_chains", "falling_chains", defArgs s_falling_chains, defBody s_falling_chains, defScope s_falling_chains⟩
def q_is_rising : Sh.FnA := ⟨fun K => (Sh.gA K "is_rising"), "is_rising", "is_rising", defArgs s_is_rising, defBody s_is_rising, defScope s_is_rising⟩
def q_is_falling : Sh.FnA := ⟨fun K => (Sh.gA K "is_falling"), "is_falling", "is_falling", defArgs s_is_falling, defBody s_is_falling, defScope s_is_falling⟩
def q__law_number : Sh.FnA := ⟨fun K => (Sh.gA K "_law_number"), "_law_number", "_law_number", defArgs s__law_number, defBody s__law_number, defScope s__law_number⟩
def q__law_take : Sh.FnA := ⟨fun K => (Sh.gA K "_law_take"), "_law_take", "_law_take", defArgs s__law_take, defBody s__law_take, defScope s__law_take⟩
def q__law_pick : Sh.FnA := ⟨fun K => (Sh.gA K "_law_pick"), "_law_pick", "_law_pick", defArgs s__law_pick, defBody s__law_pick, defScope s__law_pick⟩
def q__law_parent : Sh.FnA := ⟨fun K => (Sh.gA K "_law_parent"), "_law_parent", "_law_parent", defArgs s__law_parent, defBody s__law_parent, defScope s__law_parent⟩
def q__law_way : Sh.FnA := ⟨fun K => (Sh.gA K "_law_way"), "_law_way", "_law_way", defArgs s__law_way, defBody s__law_way, defScope s__law_way⟩
def q__law_arms : Sh.FnA := ⟨fun K => (Sh.gA K "_law_arms"), "_law_arms", "_law_arms", defArgs s__law_arms, defBody s__law_arms, defScope s__law_arms⟩
def q__law_keys : Sh.FnA := ⟨fun K => (Sh.gA K "_law_keys"), "_law_keys", "_law_keys", defArgs s__law_keys, defBody s__law_keys, defScope s__law_keys⟩
def q__law_is_heap : Sh.FnA := ⟨fun K => (Sh.gA K "_law_is_heap"), "_law_is_heap", "_law_is_heap", defArgs s__law_is_heap, defBody s__law_is_heap, defScope s__law_is_heap⟩
def q__law_are_chains : Sh.FnA := ⟨fun K => (Sh.gA K "_law_are_chains"), "_law_are_chains", "_law_are_chains", defArgs s__law_are_chains, defBody s__law_are_chains, defScope s__law_are_chains⟩
def q__law_is_mended : Sh.FnA := ⟨fun K => (Sh.gA K "_law_is_mended"), "_law_is_mended", "_law_is_mended", defArgs s__law_is_mended, defBody s__law_is_mended, defScope s__law_is_mended⟩
def q__law_loose : Sh.FnA := ⟨fun K => (Sh.gA K "_law_loose"), "_law_loose", "_law_loose", defArgs s__law_loose, defBody s__law_loose, defScope s__law_loose⟩
def q__law_parts : Sh.FnA := ⟨fun K => (Sh.gA K "_law_parts"), "_law_parts", "_law_parts", defArgs s__law_parts, defBody s__law_parts, defScope s__law_parts⟩
def q_law : Sh.FnA := ⟨fun K => (Sh.gA K "law"), "law", "law", defArgs s_law, defBody s_law, defScope s_law⟩
def fns0 : List Sh.FnA := [q_is_integer, q_is_integer_from, q_is_key, q_check_arms, q_check_many, q_check_place, q_row_of, q_t___init__, q_t_of, q_t___len__, q_t___contains__, q_t___iter__, q_t___getitem__, q_t_parent, q_t_way_to, q_t_subtree, q_m___init__, q_m___eq__, q_m_shows, q_mend, q_sets_to_keep, q_mended_row, q_falling_chains, q_is_rising, q_is_falling]
def fns1 : List Sh.FnA := [q__law_number, q__law_take, q__law_pick, q__law_parent, q__law_way, q__law_arms, q__law_keys, q__law_is_heap, q__law_are_chains, q__law_is_mended, q__law_loose, q__law_parts, q_law]
def fns : List Sh.FnA := fns0 ++ fns1
def gr0 (K : PySem.W.Frag) : Bool := decide (PySem.W.nsIn K mainGlobals "Tree" = some (some (.ref (Sh.gA K "Tree")))) && (decide (PySem.W.nsIn K mainGlobals "Mended" = some (some (.ref (Sh.gA K "Mended")))) && (decide (PySem.W.nsIn K mainGlobals "is_integer" = some (some (.ref (Sh.gA K "is_integer")))) && (decide (PySem.W.nsIn K mainGlobals "is_integer_from" = some (some (.ref (Sh.gA K "is_integer_from")))) && (decide (PySem.W.nsIn K mainGlobals "is_key" = some (some (.ref (Sh.gA K "is_key")))) && (decide (PySem.W.nsIn K mainGlobals "check_arms" = some (some (.ref (Sh.gA K "check_arms")))) && (decide (PySem.W.nsIn K mainGlobals "check_many" = some (some (.ref (Sh.gA K "check_many")))) && (decide (PySem.W.nsIn K mainGlobals "check_place" = some (some (.ref (Sh.gA K "check_place")))) && (decide (PySem.W.nsIn K mainGlobals "row_of" = some (some (.ref (Sh.gA K "row_of")))) && (decide (PySem.W.findIn K (.ref (Sh.gA K "Tree")) "__init__" = some (some (.ref (Sh.mA K (Sh.gA K "Tree") "__init__")))) && (decide (PySem.W.isFn K (.ref (Sh.mA K (Sh.gA K "Tree") "__init__")) = true) && (decide (PySem.W.nsIn K (Sh.kwA K (Sh.mA K (Sh.gA K "Tree") "__init__")) "arms" = some (some (.int 2 (Sh.tokI K (Sh.kwA K (Sh.mA K (Sh.gA K "Tree") "__init__")) "arms")))))))))))))))
theorem gr0_ok {K : PySem.W.Frag} (h : gr0 K = true) : (PySem.W.nsIn K mainGlobals "Tree" = some (some (.ref (Sh.gA K "Tree")))) ∧ (PySem.W.nsIn K mainGlobals "Mended" = some (some (.ref (Sh.gA K "Mended")))) ∧ (PySem.W.nsIn K mainGlobals "is_integer" = some (some (.ref (Sh.gA K "is_integer")))) ∧ (PySem.W.nsIn K mainGlobals "is_integer_from" = some (some (.ref (Sh.gA K "is_integer_from")))) ∧ (PySem.W.nsIn K mainGlobals "is_key" = some (some (.ref (Sh.gA K "is_key")))) ∧ (PySem.W.nsIn K mainGlobals "check_arms" = some (some (.ref (Sh.gA K "check_arms")))) ∧ (PySem.W.nsIn K mainGlobals "check_many" = some (some (.ref (Sh.gA K "check_many")))) ∧ (PySem.W.nsIn K mainGlobals "check_place" = some (some (.ref (Sh.gA K "check_place")))) ∧ (PySem.W.nsIn K mainGlobals "row_of" = some (some (.ref (Sh.gA K "row_of")))) ∧ (PySem.W.findIn K (.ref (Sh.gA K "Tree")) "__init__" = some (some (.ref (Sh.mA K (Sh.gA K "Tree") "__init__")))) ∧ (PySem.W.isFn K (.ref (Sh.mA K (Sh.gA K "Tree") "__init__")) = true) ∧ (PySem.W.nsIn K (Sh.kwA K (Sh.mA K (Sh.gA K "Tree") "__init__")) "arms" = some (some (.int 2 (Sh.tokI K (Sh.kwA K (Sh.mA K (Sh.gA K "Tree") "__init__")) "arms")))) := by
  unfold gr0 at h
  obtain ⟨h0, h⟩ := Sh.band h
  obtain ⟨h1, h⟩ := Sh.band h
  obtain ⟨h2, h⟩ := Sh.band h
  obtain ⟨h3, h⟩ := Sh.band h
  obtain ⟨h4, h⟩ := Sh.band h
  obtain ⟨h5, h⟩ := Sh.band h
  obtain ⟨h6, h⟩ := Sh.band h
  obtain ⟨h7, h⟩ := Sh.band h
  obtain ⟨h8, h⟩ := Sh.band h
  obtain ⟨h9, h⟩ := Sh.band h
  obtain ⟨h10, h⟩ := Sh.band h
  exact ⟨of_decide_eq_true h0, of_decide_eq_true h1, of_decide_eq_true h2, of_decide_eq_true h3, of_decide_eq_true h4, of_decide_eq_true h5, of_decide_eq_true h6, of_decide_eq_true h7, of_decide_eq_true h8, of_decide_eq_true h9, of_decide_eq_true h10, of_decide_eq_true h⟩
def gr1 (K : PySem.W.Frag) : Bool := Sh.ofB K (Sh.gA K "Tree") (Sh.clsA K (Sh.gA K "Tree") "of") "of" && (decide (PySem.W.recIn K (Sh.clsA K (Sh.gA K "Tree") "of") "classmethod" = some (.ref (Sh.recA K (Sh.clsA K (Sh.gA K "Tree") "of") "classmethod") :: (Sh.recT K (Sh.clsA K (Sh.gA K "Tree") "of") "classmethod"))) && (decide (PySem.W.fnIn K (Sh.recA K (Sh.clsA K (Sh.gA K "Tree") "of") "classmethod") = true) && (decide (PySem.W.nsIn K (Sh.kwA K (Sh.recA K (Sh.clsA K (Sh.gA K "Tree") "of") "classmethod")) "arms" = some (some (.int 2 (Sh.tokI K (Sh.kwA K (Sh.recA K (Sh.clsA K (Sh.gA K "Tree") "of") "classmethod")) "arms")))) && (decide (PySem.W.findIn K (.ref (Sh.gA K "Tree")) "__len__" = some (some (.ref (Sh.mA K (Sh.gA K "Tree") "__len__")))) && (decide (PySem.W.isFn K (.ref (Sh.mA K (Sh.gA K "Tree") "__len__")) = true) && (decide (PySem.W.fnIn K (Sh.mA K (Sh.gA K "Tree") "__len__") = true) && (decide (PySem.W.findIn K (.ref (Sh.gA K "Tree")) "__contains__" = some (some (.ref (Sh.mA K (Sh.gA K "Tree") "__contains__")))) && (decide (PySem.W.isFn K (.ref (Sh.mA K (Sh.gA K "Tree") "__contains__")) = true) && (decide (PySem.W.fnIn K (Sh.mA K (Sh.gA K "Tree") "__contains__") = true) && (decide (PySem.W.findIn K (.ref (Sh.gA K "Tree")) "__iter__" = some (some (.ref (Sh.mA K (Sh.gA K "Tree") "__iter__")))) && (decide (PySem.W.isFn K (.ref (Sh.mA K (Sh.gA K "Tree") "__iter__")) = true))))))))))))
theorem gr1_ok {K : PySem.W.Frag} (h : gr1 K = true) : (PySem.W.findCls K (.ref (Sh.gA K "Tree")) (.type "type") "of" = some (.get (.builtin "classmethod.__get__") (.ref (Sh.clsA K (Sh.gA K "Tree") "of")) .none (.ref (Sh.gA K "Tree")))) ∧ (PySem.W.recIn K (Sh.clsA K (Sh.gA K "Tree") "of") "classmethod" = some (.ref (Sh.recA K (Sh.clsA K (Sh.gA K "Tree") "of") "classmethod") :: (Sh.recT K (Sh.clsA K (Sh.gA K "Tree") "of") "classmethod"))) ∧ (PySem.W.fnIn K (Sh.recA K (Sh.clsA K (Sh.gA K "Tree") "of") "classmethod") = true) ∧ (PySem.W.nsIn K (Sh.kwA K (Sh.recA K (Sh.clsA K (Sh.gA K "Tree") "of") "classmethod")) "arms" = some (some (.int 2 (Sh.tokI K (Sh.kwA K (Sh.recA K (Sh.clsA K (Sh.gA K "Tree") "of") "classmethod")) "arms")))) ∧ (PySem.W.findIn K (.ref (Sh.gA K "Tree")) "__len__" = some (some (.ref (Sh.mA K (Sh.gA K "Tree") "__len__")))) ∧ (PySem.W.isFn K (.ref (Sh.mA K (Sh.gA K "Tree") "__len__")) = true) ∧ (PySem.W.fnIn K (Sh.mA K (Sh.gA K "Tree") "__len__") = true) ∧ (PySem.W.findIn K (.ref (Sh.gA K "Tree")) "__contains__" = some (some (.ref (Sh.mA K (Sh.gA K "Tree") "__contains__")))) ∧ (PySem.W.isFn K (.ref (Sh.mA K (Sh.gA K "Tree") "__contains__")) = true) ∧ (PySem.W.fnIn K (Sh.mA K (Sh.gA K "Tree") "__contains__") = true) ∧ (PySem.W.findIn K (.ref (Sh.gA K "Tree")) "__iter__" = some (some (.ref (Sh.mA K (Sh.gA K "Tree") "__iter__")))) ∧ (PySem.W.isFn K (.ref (Sh.mA K (Sh.gA K "Tree") "__iter__")) = true) := by
  unfold gr1 at h
  obtain ⟨h0, h⟩ := Sh.band h
  obtain ⟨h1, h⟩ := Sh.band h
  obtain ⟨h2, h⟩ := Sh.band h
  obtain ⟨h3, h⟩ := Sh.band h
  obtain ⟨h4, h⟩ := Sh.band h
  obtain ⟨h5, h⟩ := Sh.band h
  obtain ⟨h6, h⟩ := Sh.band h
  obtain ⟨h7, h⟩ := Sh.band h
  obtain ⟨h8, h⟩ := Sh.band h
  obtain ⟨h9, h⟩ := Sh.band h
  obtain ⟨h10, h⟩ := Sh.band h
  exact ⟨Sh.ofB_ok h0, of_decide_eq_true h1, of_decide_eq_true h2, of_decide_eq_true h3, of_decide_eq_true h4, of_decide_eq_true h5, of_decide_eq_true h6, of_decide_eq_true h7, of_decide_eq_true h8, of_decide_eq_true h9, of_decide_eq_true h10, of_decide_eq_true h⟩
def gr2 (K : PySem.W.Frag) : Bool := decide (PySem.W.fnIn K (Sh.mA K (Sh.gA K "Tree") "__iter__") = true) && (decide (PySem.W.findIn K (.ref (Sh.gA K "Tree")) "__getitem__" = some (some (.ref (Sh.mA K (Sh.gA K "Tree") "__getitem__")))) && (decide (PySem.W.isFn K (.ref (Sh.mA K (Sh.gA K "Tree") "__getitem__")) = true) && (decide (PySem.W.fnIn K (Sh.mA K (Sh.gA K "Tree") "__getitem__") = true) && (decide (PySem.W.findIn K (.ref (Sh.gA K "Tree")) "parent" = some (some (.ref (Sh.mA K (Sh.gA K "Tree") "parent")))) && (decide (PySem.W.isFn K (.ref (Sh.mA K (Sh.gA K "Tree") "parent")) = true) && (decide (PySem.W.findIn K (.ref (Sh.gA K "Tree")) "way_to" = some (some (.ref (Sh.mA K (Sh.gA K "Tree") "way_to")))) && (decide (PySem.W.isFn K (.ref (Sh.mA K (Sh.gA K "Tree") "way_to")) = true) && (decide (PySem.W.findIn K (.ref (Sh.gA K "Tree")) "subtree" = some (some (.ref (Sh.mA K (Sh.gA K "Tree") "subtree")))) && (decide (PySem.W.isFn K (.ref (Sh.mA K (Sh.gA K "Tree") "subtree")) = true) && (decide (PySem.W.findIn K (.ref (Sh.gA K "Mended")) "__init__" = some (some (.ref (Sh.mA K (Sh.gA K "Mended") "__init__")))) && (decide (PySem.W.isFn K (.ref (Sh.mA K (Sh.gA K "Mended") "__init__")) = true))))))))))))
theorem gr2_ok {K : PySem.W.Frag} (h : gr2 K = true) : (PySem.W.fnIn K (Sh.mA K (Sh.gA K "Tree") "__iter__") = true) ∧ (PySem.W.findIn K (.ref (Sh.gA K "Tree")) "__getitem__" = some (some (.ref (Sh.mA K (Sh.gA K "Tree") "__getitem__")))) ∧ (PySem.W.isFn K (.ref (Sh.mA K (Sh.gA K "Tree") "__getitem__")) = true) ∧ (PySem.W.fnIn K (Sh.mA K (Sh.gA K "Tree") "__getitem__") = true) ∧ (PySem.W.findIn K (.ref (Sh.gA K "Tree")) "parent" = some (some (.ref (Sh.mA K (Sh.gA K "Tree") "parent")))) ∧ (PySem.W.isFn K (.ref (Sh.mA K (Sh.gA K "Tree") "parent")) = true) ∧ (PySem.W.findIn K (.ref (Sh.gA K "Tree")) "way_to" = some (some (.ref (Sh.mA K (Sh.gA K "Tree") "way_to")))) ∧ (PySem.W.isFn K (.ref (Sh.mA K (Sh.gA K "Tree") "way_to")) = true) ∧ (PySem.W.findIn K (.ref (Sh.gA K "Tree")) "subtree" = some (some (.ref (Sh.mA K (Sh.gA K "Tree") "subtree")))) ∧ (PySem.W.isFn K (.ref (Sh.mA K (Sh.gA K "Tree") "subtree")) = true) ∧ (PySem.W.findIn K (.ref (Sh.gA K "Mended")) "__init__" = some (some (.ref (Sh.mA K (Sh.gA K "Mended") "__init__")))) ∧ (PySem.W.isFn K (.ref (Sh.mA K (Sh.gA K "Mended") "__init__")) = true) := by
  unfold gr2 at h
  obtain ⟨h0, h⟩ := Sh.band h
  obtain ⟨h1, h⟩ := Sh.band h
  obtain ⟨h2, h⟩ := Sh.band h
  obtain ⟨h3, h⟩ := Sh.band h
  obtain ⟨h4, h⟩ := Sh.band h
  obtain ⟨h5, h⟩ := Sh.band h
  obtain ⟨h6, h⟩ := Sh.band h
  obtain ⟨h7, h⟩ := Sh.band h
  obtain ⟨h8, h⟩ := Sh.band h
  obtain ⟨h9, h⟩ := Sh.band h
  obtain ⟨h10, h⟩ := Sh.band h
  exact ⟨of_decide_eq_true h0, of_decide_eq_true h1, of_decide_eq_true h2, of_decide_eq_true h3, of_decide_eq_true h4, of_decide_eq_true h5, of_decide_eq_true h6, of_decide_eq_true h7, of_decide_eq_true h8, of_decide_eq_true h9, of_decide_eq_true h10, of_decide_eq_true h⟩
def gr3 (K : PySem.W.Frag) : Bool := decide (PySem.W.findIn K (.ref (Sh.gA K "Mended")) "__eq__" = some (some (.ref (Sh.mA K (Sh.gA K "Mended") "__eq__")))) && (decide (PySem.W.isFn K (.ref (Sh.mA K (Sh.gA K "Mended") "__eq__")) = true) && (decide (PySem.W.findIn K (.ref (Sh.gA K "Mended")) "shows" = some (some (.ref (Sh.mA K (Sh.gA K "Mended") "shows")))) && (decide (PySem.W.isFn K (.ref (Sh.mA K (Sh.gA K "Mended") "shows")) = true) && (decide (PySem.W.nsIn K (Sh.kwA K (Sh.mA K (Sh.gA K "Mended") "shows")) "arms" = some (some (.int 2 (Sh.tokI K (Sh.kwA K (Sh.mA K (Sh.gA K "Mended") "shows")) "arms")))) && (decide (PySem.W.nsIn K mainGlobals "mend" = some (some (.ref (Sh.gA K "mend")))) && (decide (PySem.W.nsIn K (Sh.kwA K (Sh.gA K "mend")) "arms" = some (some (.int 2 (Sh.tokI K (Sh.kwA K (Sh.gA K "mend")) "arms")))) && (decide (PySem.W.nsIn K mainGlobals "sets_to_keep" = some (some (.ref (Sh.gA K "sets_to_keep")))) && (decide (PySem.W.nsIn K mainGlobals "mended_row" = some (some (.ref (Sh.gA K "mended_row")))) && (decide (PySem.W.nsIn K mainGlobals "falling_chains" = some (some (.ref (Sh.gA K "falling_chains")))) && (decide (PySem.W.nsIn K mainGlobals "is_rising" = some (some (.ref (Sh.gA K "is_rising")))) && (decide (PySem.W.nsIn K mainGlobals "is_falling" = some (some (.ref (Sh.gA K "is_falling")))))))))))))))
theorem gr3_ok {K : PySem.W.Frag} (h : gr3 K = true) : (PySem.W.findIn K (.ref (Sh.gA K "Mended")) "__eq__" = some (some (.ref (Sh.mA K (Sh.gA K "Mended") "__eq__")))) ∧ (PySem.W.isFn K (.ref (Sh.mA K (Sh.gA K "Mended") "__eq__")) = true) ∧ (PySem.W.findIn K (.ref (Sh.gA K "Mended")) "shows" = some (some (.ref (Sh.mA K (Sh.gA K "Mended") "shows")))) ∧ (PySem.W.isFn K (.ref (Sh.mA K (Sh.gA K "Mended") "shows")) = true) ∧ (PySem.W.nsIn K (Sh.kwA K (Sh.mA K (Sh.gA K "Mended") "shows")) "arms" = some (some (.int 2 (Sh.tokI K (Sh.kwA K (Sh.mA K (Sh.gA K "Mended") "shows")) "arms")))) ∧ (PySem.W.nsIn K mainGlobals "mend" = some (some (.ref (Sh.gA K "mend")))) ∧ (PySem.W.nsIn K (Sh.kwA K (Sh.gA K "mend")) "arms" = some (some (.int 2 (Sh.tokI K (Sh.kwA K (Sh.gA K "mend")) "arms")))) ∧ (PySem.W.nsIn K mainGlobals "sets_to_keep" = some (some (.ref (Sh.gA K "sets_to_keep")))) ∧ (PySem.W.nsIn K mainGlobals "mended_row" = some (some (.ref (Sh.gA K "mended_row")))) ∧ (PySem.W.nsIn K mainGlobals "falling_chains" = some (some (.ref (Sh.gA K "falling_chains")))) ∧ (PySem.W.nsIn K mainGlobals "is_rising" = some (some (.ref (Sh.gA K "is_rising")))) ∧ (PySem.W.nsIn K mainGlobals "is_falling" = some (some (.ref (Sh.gA K "is_falling")))) := by
  unfold gr3 at h
  obtain ⟨h0, h⟩ := Sh.band h
  obtain ⟨h1, h⟩ := Sh.band h
  obtain ⟨h2, h⟩ := Sh.band h
  obtain ⟨h3, h⟩ := Sh.band h
  obtain ⟨h4, h⟩ := Sh.band h
  obtain ⟨h5, h⟩ := Sh.band h
  obtain ⟨h6, h⟩ := Sh.band h
  obtain ⟨h7, h⟩ := Sh.band h
  obtain ⟨h8, h⟩ := Sh.band h
  obtain ⟨h9, h⟩ := Sh.band h
  obtain ⟨h10, h⟩ := Sh.band h
  exact ⟨of_decide_eq_true h0, of_decide_eq_true h1, of_decide_eq_true h2, of_decide_eq_true h3, of_decide_eq_true h4, of_decide_eq_true h5, of_decide_eq_true h6, of_decide_eq_true h7, of_decide_eq_true h8, of_decide_eq_true h9, of_decide_eq_true h10, of_decide_eq_true h⟩
def gr4 (K : PySem.W.Frag) : Bool := decide (PySem.W.nsIn K mainGlobals "_law_number" = some (some (.ref (Sh.gA K "_law_number")))) && (decide (PySem.W.nsIn K mainGlobals "_law_take" = some (some (.ref (Sh.gA K "_law_take")))) && (decide (PySem.W.nsIn K mainGlobals "_law_pick" = some (some (.ref (Sh.gA K "_law_pick")))) && (decide (PySem.W.nsIn K mainGlobals "_law_parent" = some (some (.ref (Sh.gA K "_law_parent")))) && (decide (PySem.W.nsIn K mainGlobals "_law_way" = some (some (.ref (Sh.gA K "_law_way")))) && (decide (PySem.W.nsIn K mainGlobals "_law_arms" = some (some (.ref (Sh.gA K "_law_arms")))) && (decide (PySem.W.nsIn K mainGlobals "_law_keys" = some (some (.ref (Sh.gA K "_law_keys")))) && (decide (PySem.W.nsIn K mainGlobals "_law_is_heap" = some (some (.ref (Sh.gA K "_law_is_heap")))) && (decide (PySem.W.nsIn K mainGlobals "_law_are_chains" = some (some (.ref (Sh.gA K "_law_are_chains")))) && (decide (PySem.W.nsIn K mainGlobals "_law_is_mended" = some (some (.ref (Sh.gA K "_law_is_mended")))) && (decide (PySem.W.nsIn K mainGlobals "_law_loose" = some (some (.ref (Sh.gA K "_law_loose")))) && (decide (PySem.W.nsIn K mainGlobals "_law_parts" = some (some (.ref (Sh.gA K "_law_parts")))))))))))))))
theorem gr4_ok {K : PySem.W.Frag} (h : gr4 K = true) : (PySem.W.nsIn K mainGlobals "_law_number" = some (some (.ref (Sh.gA K "_law_number")))) ∧ (PySem.W.nsIn K mainGlobals "_law_take" = some (some (.ref (Sh.gA K "_law_take")))) ∧ (PySem.W.nsIn K mainGlobals "_law_pick" = some (some (.ref (Sh.gA K "_law_pick")))) ∧ (PySem.W.nsIn K mainGlobals "_law_parent" = some (some (.ref (Sh.gA K "_law_parent")))) ∧ (PySem.W.nsIn K mainGlobals "_law_way" = some (some (.ref (Sh.gA K "_law_way")))) ∧ (PySem.W.nsIn K mainGlobals "_law_arms" = some (some (.ref (Sh.gA K "_law_arms")))) ∧ (PySem.W.nsIn K mainGlobals "_law_keys" = some (some (.ref (Sh.gA K "_law_keys")))) ∧ (PySem.W.nsIn K mainGlobals "_law_is_heap" = some (some (.ref (Sh.gA K "_law_is_heap")))) ∧ (PySem.W.nsIn K mainGlobals "_law_are_chains" = some (some (.ref (Sh.gA K "_law_are_chains")))) ∧ (PySem.W.nsIn K mainGlobals "_law_is_mended" = some (some (.ref (Sh.gA K "_law_is_mended")))) ∧ (PySem.W.nsIn K mainGlobals "_law_loose" = some (some (.ref (Sh.gA K "_law_loose")))) ∧ (PySem.W.nsIn K mainGlobals "_law_parts" = some (some (.ref (Sh.gA K "_law_parts")))) := by
  unfold gr4 at h
  obtain ⟨h0, h⟩ := Sh.band h
  obtain ⟨h1, h⟩ := Sh.band h
  obtain ⟨h2, h⟩ := Sh.band h
  obtain ⟨h3, h⟩ := Sh.band h
  obtain ⟨h4, h⟩ := Sh.band h
  obtain ⟨h5, h⟩ := Sh.band h
  obtain ⟨h6, h⟩ := Sh.band h
  obtain ⟨h7, h⟩ := Sh.band h
  obtain ⟨h8, h⟩ := Sh.band h
  obtain ⟨h9, h⟩ := Sh.band h
  obtain ⟨h10, h⟩ := Sh.band h
  exact ⟨of_decide_eq_true h0, of_decide_eq_true h1, of_decide_eq_true h2, of_decide_eq_true h3, of_decide_eq_true h4, of_decide_eq_true h5, of_decide_eq_true h6, of_decide_eq_true h7, of_decide_eq_true h8, of_decide_eq_true h9, of_decide_eq_true h10, of_decide_eq_true h⟩
def gr5 (K : PySem.W.Frag) : Bool := decide (PySem.W.nsIn K mainGlobals "law" = some (some (.ref (Sh.gA K "law")))) && (decide (PySem.W.nsIn K mainGlobals "GREATEST_KEY" = some (some (.int 1000000000 (Sh.tokI K mainGlobals "GREATEST_KEY")))) && (decide (PySem.W.nsIn K mainGlobals "MOST_ARMS" = some (some (.int 4 (Sh.tokI K mainGlobals "MOST_ARMS")))) && (decide (PySem.W.nsIn K mainGlobals "MOST_PLACES" = some (some (.int 12 (Sh.tokI K mainGlobals "MOST_PLACES")))) && (decide (PySem.W.nsIn K mainGlobals "all" = some none) && (decide (PySem.W.nsIn K mainGlobals "any" = some none) && (decide (PySem.W.nsIn K mainGlobals "bool" = some none) && (decide (PySem.W.nsIn K mainGlobals "enumerate" = some none) && (decide (PySem.W.nsIn K mainGlobals "int" = some none) && (decide (PySem.W.nsIn K mainGlobals "isinstance" = some none) && (decide (PySem.W.nsIn K mainGlobals "iter" = some none) && (decide (PySem.W.nsIn K mainGlobals "len" = some none))))))))))))
theorem gr5_ok {K : PySem.W.Frag} (h : gr5 K = true) : (PySem.W.nsIn K mainGlobals "law" = some (some (.ref (Sh.gA K "law")))) ∧ (PySem.W.nsIn K mainGlobals "GREATEST_KEY" = some (some (.int 1000000000 (Sh.tokI K mainGlobals "GREATEST_KEY")))) ∧ (PySem.W.nsIn K mainGlobals "MOST_ARMS" = some (some (.int 4 (Sh.tokI K mainGlobals "MOST_ARMS")))) ∧ (PySem.W.nsIn K mainGlobals "MOST_PLACES" = some (some (.int 12 (Sh.tokI K mainGlobals "MOST_PLACES")))) ∧ (PySem.W.nsIn K mainGlobals "all" = some none) ∧ (PySem.W.nsIn K mainGlobals "any" = some none) ∧ (PySem.W.nsIn K mainGlobals "bool" = some none) ∧ (PySem.W.nsIn K mainGlobals "enumerate" = some none) ∧ (PySem.W.nsIn K mainGlobals "int" = some none) ∧ (PySem.W.nsIn K mainGlobals "isinstance" = some none) ∧ (PySem.W.nsIn K mainGlobals "iter" = some none) ∧ (PySem.W.nsIn K mainGlobals "len" = some none) := by
  unfold gr5 at h
  obtain ⟨h0, h⟩ := Sh.band h
  obtain ⟨h1, h⟩ := Sh.band h
  obtain ⟨h2, h⟩ := Sh.band h
  obtain ⟨h3, h⟩ := Sh.band h
  obtain ⟨h4, h⟩ := Sh.band h
  obtain ⟨h5, h⟩ := Sh.band h
  obtain ⟨h6, h⟩ := Sh.band h
  obtain ⟨h7, h⟩ := Sh.band h
  obtain ⟨h8, h⟩ := Sh.band h
  obtain ⟨h9, h⟩ := Sh.band h
  obtain ⟨h10, h⟩ := Sh.band h
  exact ⟨of_decide_eq_true h0, of_decide_eq_true h1, of_decide_eq_true h2, of_decide_eq_true h3, of_decide_eq_true h4, of_decide_eq_true h5, of_decide_eq_true h6, of_decide_eq_true h7, of_decide_eq_true h8, of_decide_eq_true h9, of_decide_eq_true h10, of_decide_eq_true h⟩
def gr6 (K : PySem.W.Frag) : Bool := decide (PySem.W.nsIn K mainGlobals "list" = some none) && (decide (PySem.W.nsIn K mainGlobals "max" = some none) && (decide (PySem.W.nsIn K mainGlobals "min" = some none) && (decide (PySem.W.nsIn K mainGlobals "range" = some none) && (decide (PySem.W.nsIn K mainGlobals "reversed" = some none) && (decide (PySem.W.nsIn K mainGlobals "sorted" = some none) && (decide (PySem.W.nsIn K mainGlobals "sum" = some none) && (decide (PySem.W.nsIn K mainGlobals "tuple" = some none) && (decide (PySem.W.nsIn K mainGlobals "zip" = some none) && (decide (PySem.W.plainGet K (Sh.gA K "Tree") Str.empty = true) && (decide (PySem.W.hasDictIn K (Sh.gA K "Tree") = true) && (decide (PySem.W.plainOver K (Sh.gA K "Tree") = true))))))))))))
theorem gr6_ok {K : PySem.W.Frag} (h : gr6 K = true) : (PySem.W.nsIn K mainGlobals "list" = some none) ∧ (PySem.W.nsIn K mainGlobals "max" = some none) ∧ (PySem.W.nsIn K mainGlobals "min" = some none) ∧ (PySem.W.nsIn K mainGlobals "range" = some none) ∧ (PySem.W.nsIn K mainGlobals "reversed" = some none) ∧ (PySem.W.nsIn K mainGlobals "sorted" = some none) ∧ (PySem.W.nsIn K mainGlobals "sum" = some none) ∧ (PySem.W.nsIn K mainGlobals "tuple" = some none) ∧ (PySem.W.nsIn K mainGlobals "zip" = some none) ∧ (PySem.W.plainGet K (Sh.gA K "Tree") Str.empty = true) ∧ (PySem.W.hasDictIn K (Sh.gA K "Tree") = true) ∧ (PySem.W.plainOver K (Sh.gA K "Tree") = true) := by
  unfold gr6 at h
  obtain ⟨h0, h⟩ := Sh.band h
  obtain ⟨h1, h⟩ := Sh.band h
  obtain ⟨h2, h⟩ := Sh.band h
  obtain ⟨h3, h⟩ := Sh.band h
  obtain ⟨h4, h⟩ := Sh.band h
  obtain ⟨h5, h⟩ := Sh.band h
  obtain ⟨h6, h⟩ := Sh.band h
  obtain ⟨h7, h⟩ := Sh.band h
  obtain ⟨h8, h⟩ := Sh.band h
  obtain ⟨h9, h⟩ := Sh.band h
  obtain ⟨h10, h⟩ := Sh.band h
  exact ⟨of_decide_eq_true h0, of_decide_eq_true h1, of_decide_eq_true h2, of_decide_eq_true h3, of_decide_eq_true h4, of_decide_eq_true h5, of_decide_eq_true h6, of_decide_eq_true h7, of_decide_eq_true h8, of_decide_eq_true h9, of_decide_eq_true h10, of_decide_eq_true h⟩
def gr7 (K : PySem.W.Frag) : Bool := decide (PySem.W.findIn K (.ref (Sh.gA K "Tree")) "__setattr__" = some (some (.builtin "object.__setattr__"))) && (decide (PySem.W.findIn K (.ref (Sh.gA K "Tree")) "many" = some none) && (decide (PySem.W.findIn K (.ref (Sh.gA K "Tree")) "arms" = some none) && (decide (PySem.W.findIn K (.ref (Sh.gA K "Tree")) "_places" = some none) && (decide (PySem.W.makesIn K (Sh.gA K "Tree") = true) && (decide (PySem.W.keepIn K (.ref (Sh.gA K "Tree")) = true) && (decide (PySem.W.readsIn K (Sh.gA K "Tree") (.type "type") = true) && (decide (PySem.W.specialIn K (.ref (Sh.gA K "Tree")) "__getattribute__" = some (some (.builtin "type.__getattribute__"))) && (decide (PySem.W.plainGet K (Sh.gA K "Mended") Str.empty = true) && (decide (PySem.W.hasDictIn K (Sh.gA K "Mended") = true) && (decide (PySem.W.plainOver K (Sh.gA K "Mended") = true) && (decide (PySem.W.findIn K (.ref (Sh.gA K "Mended")) "__setattr__" = some (some (.builtin "object.__setattr__"))))))))))))))
theorem gr7_ok {K : PySem.W.Frag} (h : gr7 K = true) : (PySem.W.findIn K (.ref (Sh.gA K "Tree")) "__setattr__" = some (some (.builtin "object.__setattr__"))) ∧ (PySem.W.findIn K (.ref (Sh.gA K "Tree")) "many" = some none) ∧ (PySem.W.findIn K (.ref (Sh.gA K "Tree")) "arms" = some none) ∧ (PySem.W.findIn K (.ref (Sh.gA K "Tree")) "_places" = some none) ∧ (PySem.W.makesIn K (Sh.gA K "Tree") = true) ∧ (PySem.W.keepIn K (.ref (Sh.gA K "Tree")) = true) ∧ (PySem.W.readsIn K (Sh.gA K "Tree") (.type "type") = true) ∧ (PySem.W.specialIn K (.ref (Sh.gA K "Tree")) "__getattribute__" = some (some (.builtin "type.__getattribute__"))) ∧ (PySem.W.plainGet K (Sh.gA K "Mended") Str.empty = true) ∧ (PySem.W.hasDictIn K (Sh.gA K "Mended") = true) ∧ (PySem.W.plainOver K (Sh.gA K "Mended") = true) ∧ (PySem.W.findIn K (.ref (Sh.gA K "Mended")) "__setattr__" = some (some (.builtin "object.__setattr__"))) := by
  unfold gr7 at h
  obtain ⟨h0, h⟩ := Sh.band h
  obtain ⟨h1, h⟩ := Sh.band h
  obtain ⟨h2, h⟩ := Sh.band h
  obtain ⟨h3, h⟩ := Sh.band h
  obtain ⟨h4, h⟩ := Sh.band h
  obtain ⟨h5, h⟩ := Sh.band h
  obtain ⟨h6, h⟩ := Sh.band h
  obtain ⟨h7, h⟩ := Sh.band h
  obtain ⟨h8, h⟩ := Sh.band h
  obtain ⟨h9, h⟩ := Sh.band h
  obtain ⟨h10, h⟩ := Sh.band h
  exact ⟨of_decide_eq_true h0, of_decide_eq_true h1, of_decide_eq_true h2, of_decide_eq_true h3, of_decide_eq_true h4, of_decide_eq_true h5, of_decide_eq_true h6, of_decide_eq_true h7, of_decide_eq_true h8, of_decide_eq_true h9, of_decide_eq_true h10, of_decide_eq_true h⟩
def gr8 (K : PySem.W.Frag) : Bool := decide (PySem.W.findIn K (.ref (Sh.gA K "Mended")) "row" = some none) && (decide (PySem.W.findIn K (.ref (Sh.gA K "Mended")) "kept" = some none) && (decide (PySem.W.findIn K (.ref (Sh.gA K "Mended")) "chains" = some none) && (decide (PySem.W.makesIn K (Sh.gA K "Mended") = true) && (decide (PySem.W.keepIn K (.ref (Sh.gA K "Mended")) = true) && (decide (PySem.W.findIn K (.ref (Sh.gA K "Mended")) "__ne__" = some (some (.builtin "object.__ne__"))) && (decide (PySem.W.subIn K (.ref (Sh.gA K "Mended")) (.type "object") = some true) && (decide (PySem.W.subIn K (.type "int") (.ref (Sh.gA K "Mended")) = some false) && (decide (PySem.W.subIn K (.type "tuple") (.ref (Sh.gA K "Mended")) = some false) && (decide (PySem.W.findIn K (.ref (Sh.gA K "Mended")) "__class__" = some (some (.builtin "object.__class__"))) && (decide (PySem.W.specialIn K (.builtin "object.__class__") "__get__" = some (some (.builtin "getset_descriptor.__get__"))) && (decide (PySem.W.takesIn K (.builtin "object.__class__") = some true))))))))))))
theorem gr8_ok {K : PySem.W.Frag} (h : gr8 K = true) : (PySem.W.findIn K (.ref (Sh.gA K "Mended")) "row" = some none) ∧ (PySem.W.findIn K (.ref (Sh.gA K "Mended")) "kept" = some none) ∧ (PySem.W.findIn K (.ref (Sh.gA K "Mended")) "chains" = some none) ∧ (PySem.W.makesIn K (Sh.gA K "Mended") = true) ∧ (PySem.W.keepIn K (.ref (Sh.gA K "Mended")) = true) ∧ (PySem.W.findIn K (.ref (Sh.gA K "Mended")) "__ne__" = some (some (.builtin "object.__ne__"))) ∧ (PySem.W.subIn K (.ref (Sh.gA K "Mended")) (.type "object") = some true) ∧ (PySem.W.subIn K (.type "int") (.ref (Sh.gA K "Mended")) = some false) ∧ (PySem.W.subIn K (.type "tuple") (.ref (Sh.gA K "Mended")) = some false) ∧ (PySem.W.findIn K (.ref (Sh.gA K "Mended")) "__class__" = some (some (.builtin "object.__class__"))) ∧ (PySem.W.specialIn K (.builtin "object.__class__") "__get__" = some (some (.builtin "getset_descriptor.__get__"))) ∧ (PySem.W.takesIn K (.builtin "object.__class__") = some true) := by
  unfold gr8 at h
  obtain ⟨h0, h⟩ := Sh.band h
  obtain ⟨h1, h⟩ := Sh.band h
  obtain ⟨h2, h⟩ := Sh.band h
  obtain ⟨h3, h⟩ := Sh.band h
  obtain ⟨h4, h⟩ := Sh.band h
  obtain ⟨h5, h⟩ := Sh.band h
  obtain ⟨h6, h⟩ := Sh.band h
  obtain ⟨h7, h⟩ := Sh.band h
  obtain ⟨h8, h⟩ := Sh.band h
  obtain ⟨h9, h⟩ := Sh.band h
  obtain ⟨h10, h⟩ := Sh.band h
  exact ⟨of_decide_eq_true h0, of_decide_eq_true h1, of_decide_eq_true h2, of_decide_eq_true h3, of_decide_eq_true h4, of_decide_eq_true h5, of_decide_eq_true h6, of_decide_eq_true h7, of_decide_eq_true h8, of_decide_eq_true h9, of_decide_eq_true h10, of_decide_eq_true h⟩
def gr9 (K : PySem.W.Frag) : Bool := decide (PySem.W.mroIn K (Sh.gA K "Mended") (.type "object") = some true) && (decide (PySem.W.isClsIn K (Sh.gA K "Mended") = true) && (decide (PySem.W.typeIn K (.ref (Sh.gA K "Mended")) = some (.type "type")) && (Sh.fnB K (Sh.gA K "is_integer") "is_integer" false && (Sh.fnB K (Sh.gA K "is_integer_from") "is_integer_from" false && (Sh.fnB K (Sh.gA K "is_key") "is_key" false && (Sh.fnB K (Sh.gA K "check_arms") "check_arms" false && (Sh.fnB K (Sh.gA K "check_many") "check_many" false && (Sh.fnB K (Sh.gA K "check_place") "check_place" false && (Sh.fnB K (Sh.gA K "row_of") "row_of" false && (Sh.fnB K (Sh.mA K (Sh.gA K "Tree") "__init__") "Tree.__init__" true && (Sh.fnB K (Sh.recA K (Sh.clsA K (Sh.gA K "Tree") "of") "classmethod") "Tree.of" true)))))))))))
theorem gr9_ok {K : PySem.W.Frag} (h : gr9 K = true) : (PySem.W.mroIn K (Sh.gA K "Mended") (.type "object") = some true) ∧ (PySem.W.isClsIn K (Sh.gA K "Mended") = true) ∧ (PySem.W.typeIn K (.ref (Sh.gA K "Mended")) = some (.type "type")) ∧ (Sh.fnB K (Sh.gA K "is_integer") "is_integer" false = true) ∧ (Sh.fnB K (Sh.gA K "is_integer_from") "is_integer_from" false = true) ∧ (Sh.fnB K (Sh.gA K "is_key") "is_key" false = true) ∧ (Sh.fnB K (Sh.gA K "check_arms") "check_arms" false = true) ∧ (Sh.fnB K (Sh.gA K "check_many") "check_many" false = true) ∧ (Sh.fnB K (Sh.gA K "check_place") "check_place" false = true) ∧ (Sh.fnB K (Sh.gA K "row_of") "row_of" false = true) ∧ (Sh.fnB K (Sh.mA K (Sh.gA K "Tree") "__init__") "Tree.__init__" true = true) ∧ (Sh.fnB K (Sh.recA K (Sh.clsA K (Sh.gA K "Tree") "of") "classmethod") "Tree.of" true = true) := by
  unfold gr9 at h
  obtain ⟨h0, h⟩ := Sh.band h
  obtain ⟨h1, h⟩ := Sh.band h
  obtain ⟨h2, h⟩ := Sh.band h
  obtain ⟨h3, h⟩ := Sh.band h
  obtain ⟨h4, h⟩ := Sh.band h
  obtain ⟨h5, h⟩ := Sh.band h
  obtain ⟨h6, h⟩ := Sh.band h
  obtain ⟨h7, h⟩ := Sh.band h
  obtain ⟨h8, h⟩ := Sh.band h
  obtain ⟨h9, h⟩ := Sh.band h
  obtain ⟨h10, h⟩ := Sh.band h
  exact ⟨of_decide_eq_true h0, of_decide_eq_true h1, of_decide_eq_true h2, h3, h4, h5, h6, h7, h8, h9, h10, h⟩
def gr10 (K : PySem.W.Frag) : Bool := Sh.fnB K (Sh.mA K (Sh.gA K "Tree") "__len__") "Tree.__len__" false && (Sh.fnB K (Sh.mA K (Sh.gA K "Tree") "__contains__") "Tree.__contains__" false && (Sh.fnB K (Sh.mA K (Sh.gA K "Tree") "__iter__") "Tree.__iter__" false && (Sh.fnB K (Sh.mA K (Sh.gA K "Tree") "__getitem__") "Tree.__getitem__" false && (Sh.fnB K (Sh.mA K (Sh.gA K "Tree") "parent") "Tree.parent" false && (Sh.fnB K (Sh.mA K (Sh.gA K "Tree") "way_to") "Tree.way_to" false && (Sh.fnB K (Sh.mA K (Sh.gA K "Tree") "subtree") "Tree.subtree" false && (Sh.fnB K (Sh.mA K (Sh.gA K "Mended") "__init__") "Mended.__init__" false && (Sh.fnB K (Sh.mA K (Sh.gA K "Mended") "__eq__") "Mended.__eq__" false && (Sh.fnB K (Sh.mA K (Sh.gA K "Mended") "shows") "Mended.shows" true && (Sh.fnB K (Sh.gA K "mend") "mend" true && (Sh.fnB K (Sh.gA K "sets_to_keep") "sets_to_keep" false)))))))))))
theorem gr10_ok {K : PySem.W.Frag} (h : gr10 K = true) : (Sh.fnB K (Sh.mA K (Sh.gA K "Tree") "__len__") "Tree.__len__" false = true) ∧ (Sh.fnB K (Sh.mA K (Sh.gA K "Tree") "__contains__") "Tree.__contains__" false = true) ∧ (Sh.fnB K (Sh.mA K (Sh.gA K "Tree") "__iter__") "Tree.__iter__" false = true) ∧ (Sh.fnB K (Sh.mA K (Sh.gA K "Tree") "__getitem__") "Tree.__getitem__" false = true) ∧ (Sh.fnB K (Sh.mA K (Sh.gA K "Tree") "parent") "Tree.parent" false = true) ∧ (Sh.fnB K (Sh.mA K (Sh.gA K "Tree") "way_to") "Tree.way_to" false = true) ∧ (Sh.fnB K (Sh.mA K (Sh.gA K "Tree") "subtree") "Tree.subtree" false = true) ∧ (Sh.fnB K (Sh.mA K (Sh.gA K "Mended") "__init__") "Mended.__init__" false = true) ∧ (Sh.fnB K (Sh.mA K (Sh.gA K "Mended") "__eq__") "Mended.__eq__" false = true) ∧ (Sh.fnB K (Sh.mA K (Sh.gA K "Mended") "shows") "Mended.shows" true = true) ∧ (Sh.fnB K (Sh.gA K "mend") "mend" true = true) ∧ (Sh.fnB K (Sh.gA K "sets_to_keep") "sets_to_keep" false = true) := by
  unfold gr10 at h
  obtain ⟨h0, h⟩ := Sh.band h
  obtain ⟨h1, h⟩ := Sh.band h
  obtain ⟨h2, h⟩ := Sh.band h
  obtain ⟨h3, h⟩ := Sh.band h
  obtain ⟨h4, h⟩ := Sh.band h
  obtain ⟨h5, h⟩ := Sh.band h
  obtain ⟨h6, h⟩ := Sh.band h
  obtain ⟨h7, h⟩ := Sh.band h
  obtain ⟨h8, h⟩ := Sh.band h
  obtain ⟨h9, h⟩ := Sh.band h
  obtain ⟨h10, h⟩ := Sh.band h
  exact ⟨h0, h1, h2, h3, h4, h5, h6, h7, h8, h9, h10, h⟩
def gr11 (K : PySem.W.Frag) : Bool := Sh.fnB K (Sh.gA K "mended_row") "mended_row" false && (Sh.fnB K (Sh.gA K "falling_chains") "falling_chains" false && (Sh.fnB K (Sh.gA K "is_rising") "is_rising" false && (Sh.fnB K (Sh.gA K "is_falling") "is_falling" false && (Sh.fnB K (Sh.gA K "_law_number") "_law_number" false && (Sh.fnB K (Sh.gA K "_law_take") "_law_take" false && (Sh.fnB K (Sh.gA K "_law_pick") "_law_pick" false && (Sh.fnB K (Sh.gA K "_law_parent") "_law_parent" false && (Sh.fnB K (Sh.gA K "_law_way") "_law_way" false && (Sh.fnB K (Sh.gA K "_law_arms") "_law_arms" false && (Sh.fnB K (Sh.gA K "_law_keys") "_law_keys" false && (Sh.fnB K (Sh.gA K "_law_is_heap") "_law_is_heap" false)))))))))))
theorem gr11_ok {K : PySem.W.Frag} (h : gr11 K = true) : (Sh.fnB K (Sh.gA K "mended_row") "mended_row" false = true) ∧ (Sh.fnB K (Sh.gA K "falling_chains") "falling_chains" false = true) ∧ (Sh.fnB K (Sh.gA K "is_rising") "is_rising" false = true) ∧ (Sh.fnB K (Sh.gA K "is_falling") "is_falling" false = true) ∧ (Sh.fnB K (Sh.gA K "_law_number") "_law_number" false = true) ∧ (Sh.fnB K (Sh.gA K "_law_take") "_law_take" false = true) ∧ (Sh.fnB K (Sh.gA K "_law_pick") "_law_pick" false = true) ∧ (Sh.fnB K (Sh.gA K "_law_parent") "_law_parent" false = true) ∧ (Sh.fnB K (Sh.gA K "_law_way") "_law_way" false = true) ∧ (Sh.fnB K (Sh.gA K "_law_arms") "_law_arms" false = true) ∧ (Sh.fnB K (Sh.gA K "_law_keys") "_law_keys" false = true) ∧ (Sh.fnB K (Sh.gA K "_law_is_heap") "_law_is_heap" false = true) := by
  unfold gr11 at h
  obtain ⟨h0, h⟩ := Sh.band h
  obtain ⟨h1, h⟩ := Sh.band h
  obtain ⟨h2, h⟩ := Sh.band h
  obtain ⟨h3, h⟩ := Sh.band h
  obtain ⟨h4, h⟩ := Sh.band h
  obtain ⟨h5, h⟩ := Sh.band h
  obtain ⟨h6, h⟩ := Sh.band h
  obtain ⟨h7, h⟩ := Sh.band h
  obtain ⟨h8, h⟩ := Sh.band h
  obtain ⟨h9, h⟩ := Sh.band h
  obtain ⟨h10, h⟩ := Sh.band h
  exact ⟨h0, h1, h2, h3, h4, h5, h6, h7, h8, h9, h10, h⟩
def gr12 (K : PySem.W.Frag) : Bool := Sh.fnB K (Sh.gA K "_law_are_chains") "_law_are_chains" false && (Sh.fnB K (Sh.gA K "_law_is_mended") "_law_is_mended" false && (Sh.fnB K (Sh.gA K "_law_loose") "_law_loose" false && (Sh.fnB K (Sh.gA K "_law_parts") "_law_parts" false && (Sh.fnB K (Sh.gA K "law") "law" false))))
theorem gr12_ok {K : PySem.W.Frag} (h : gr12 K = true) : (Sh.fnB K (Sh.gA K "_law_are_chains") "_law_are_chains" false = true) ∧ (Sh.fnB K (Sh.gA K "_law_is_mended") "_law_is_mended" false = true) ∧ (Sh.fnB K (Sh.gA K "_law_loose") "_law_loose" false = true) ∧ (Sh.fnB K (Sh.gA K "_law_parts") "_law_parts" false = true) ∧ (Sh.fnB K (Sh.gA K "law") "law" false = true) := by
  unfold gr12 at h
  obtain ⟨h0, h⟩ := Sh.band h
  obtain ⟨h1, h⟩ := Sh.band h
  obtain ⟨h2, h⟩ := Sh.band h
  obtain ⟨h3, h⟩ := Sh.band h
  exact ⟨h0, h1, h2, h3, h⟩
def exs (K : PySem.W.Frag) : Bool := gr0 K && (gr1 K && (gr2 K && (gr3 K && (gr4 K && (gr5 K && (gr6 K && (gr7 K && (gr8 K && (gr9 K && (gr10 K && (gr11 K && (gr12 K))))))))))))
def tfs (K : PySem.W.Frag) : List (Addr × Addr) := [((Sh.cdA K (Sh.gA K "falling_chains")), (He.tabOf K (Sh.cdA K (Sh.gA K "falling_chains"))))]
def loose : List Str := (["_wall", "__name__", "HeapError", "BadArms", "BadMany", "BadPlace", "BadRow", "MOST_ARMS", "MOST_PLACES", "GREATEST_KEY", "is_integer", "is_integer_from", "is_key", "check_arms", "check_many", "check_place", "row_of", "Tree", "Mended", "mend", "sets_to_keep", "mended_row", "falling_chains", "is_rising", "is_falling", "_law_number", "_law_take", "_law_pick", "_law_parent", "_law_way"] : List Str) ++ (["_law_arms", "_law_keys", "_law_is_heap", "_law_are_chains", "_law_is_mended", "_law_loose", "_law_parts"] : List Str)
def adr : List Addr := List.range 1000
abbrev hk : PySem.W.Hook := Sh.hook adr fns exs tfs
theorem run (w : World) : HandSHeadRun.RunEq R0 (PySem.W.view R0.prog [41]) hk (Sh.obT adr fns exs tfs) 20000 loose w := by
  intro os
  kernel_rfl
theorem law_at {w : World} {h : Heap} {mg : Str → Option Value} {fa : Addr} {K : PySem.W.Frag} (X : K.In h) (c : Sh.Tells fns exs tfs h K) (G : h.Ns mainGlobals mg) (hfa : mg "law" = some (.ref fa)) : LamX.LawAtS PySem.Challenge.rw_heaprows_k30_whole_mended_shown w K CX0 16 63 "script" mg fa h := by
  have h := c.ex
  unfold exs at h
  obtain ⟨e0, h⟩ := Sh.band h
  obtain ⟨e1, h⟩ := Sh.band h
  obtain ⟨e2, h⟩ := Sh.band h
  obtain ⟨e3, h⟩ := Sh.band h
  obtain ⟨e4, h⟩ := Sh.band h
  obtain ⟨e5, h⟩ := Sh.band h
  obtain ⟨e6, h⟩ := Sh.band h
  obtain ⟨e7, h⟩ := Sh.band h
  obtain ⟨e8, h⟩ := Sh.band h
  obtain ⟨e9, h⟩ := Sh.band h
  obtain ⟨e10, h⟩ := Sh.band h
  obtain ⟨e11, h⟩ := Sh.band h
  obtain ⟨h_aC, h_aCM, h_a_is_integer, h_a_is_integer_from, h_a_is_key, h_a_check_arms, h_a_check_many, h_a_check_place, h_a_row_of, h_a_t___init__, h_i_t___init__, h_w_t___init__⟩ := gr0_ok e0
  obtain ⟨h_a_t_of, h_r_t_of, h_n_t_of, h_w_t_of, h_a_t___len__, h_i_t___len__, h_n_t___len__, h_a_t___contains__, h_i_t___contains__, h_n_t___contains__, h_a_t___iter__, h_i_t___iter__⟩ := gr1_ok e1
  obtain ⟨h_n_t___iter__, h_a_t___getitem__, h_i_t___getitem__, h_n_t___getitem__, h_a_t_parent, h_i_t_parent, h_a_t_way_to, h_i_t_way_to, h_a_t_subtree, h_i_t_subtree, h_a_m___init__, h_i_m___init__⟩ := gr2_ok e2
  obtain ⟨h_a_m___eq__, h_i_m___eq__, h_a_m_shows, h_i_m_shows, h_w_m_shows, h_a_mend, h_w_mend, h_a_sets_to_keep, h_a_mended_row, h_a_falling_chains, h_a_is_rising, h_a_is_falling⟩ := gr3_ok e3
  obtain ⟨h_a__law_number, h_a__law_take, h_a__law_pick, h_a__law_parent, h_a__law_way, h_a__law_arms, h_a__law_keys, h_a__law_is_heap, h_a__law_are_chains, h_a__law_is_mended, h_a__law_loose, h_a__law_parts⟩ := gr4_ok e4
  obtain ⟨h_a_law, h_q_GREATEST_KEY, h_q_MOST_ARMS, h_q_MOST_PLACES, h_z_all, h_z_any, h_z_bool, h_z_enumerate, h_z_int, h_z_isinstance, h_z_iter, h_z_len⟩ := gr5_ok e5
  obtain ⟨h_z_list, h_z_max, h_z_min, h_z_range, h_z_reversed, h_z_sorted, h_z_sum, h_z_tuple, h_z_zip, h_pg, h_hd, h_po_⟩ := gr6_ok e6
  obtain ⟨h_sa, h_na_nMany, h_na_nArms, h_na_nPl, h_mk, h_kc, h_rd, h_ga, h_pgM, h_hdM, h_po_M, h_saM⟩ := gr7_ok e7
  obtain ⟨h_na_mRow, h_na_mKept, h_na_mChains, h_mkM, h_kcM, h_eneM, h_eobM, h_eniM, h_entM, h_kaM, h_knM, h_ktkM⟩ := gr8_ok e8
  obtain ⟨h_kmM, h_kclM, h_ktyM, h_b_is_integer, h_b_is_integer_from, h_b_is_key, h_b_check_arms, h_b_check_many, h_b_check_place, h_b_row_of, h_b_t___init__, h_b_t_of⟩ := gr9_ok e9
  obtain ⟨h_b_t___len__, h_b_t___contains__, h_b_t___iter__, h_b_t___getitem__, h_b_t_parent, h_b_t_way_to, h_b_t_subtree, h_b_m___init__, h_b_m___eq__, h_b_m_shows, h_b_mend, h_b_sets_to_keep⟩ := gr10_ok e10
  obtain ⟨h_b_mended_row, h_b_falling_chains, h_b_is_rising, h_b_is_falling, h_b__law_number, h_b__law_take, h_b__law_pick, h_b__law_parent, h_b__law_way, h_b__law_arms, h_b__law_keys, h_b__law_is_heap⟩ := gr11_ok e11
  obtain ⟨h_b__law_are_chains, h_b__law_is_mended, h_b__law_loose, h_b__law_parts, h_b_law⟩ := gr12_ok h
  obtain ⟨_, _, _, _, _, _, _, _, _, h_l_is_integer, h_c_is_integer, h_k_is_integer⟩ := Sh.fn_g (d := q_is_integer) (p := (Sh.gA K "is_integer")) (c.fn q_is_integer (Sh.at_ 0 rfl)) h_b_is_integer
  obtain ⟨_, _, _, _, _, _, _, _, _, h_l_is_integer_from, h_c_is_integer_from, h_k_is_integer_from⟩ := Sh.fn_g (d := q_is_integer_from) (p := (Sh.gA K "is_integer_from")) (c.fn q_is_integer_from (Sh.at_ 1 rfl)) h_b_is_integer_from
  obtain ⟨_, _, _, _, _, _, _, _, _, h_l_is_key, h_c_is_key, h_k_is_key⟩ := Sh.fn_g (d := q_is_key) (p := (Sh.gA K "is_key")) (c.fn q_is_key (Sh.at_ 2 rfl)) h_b_is_key
  obtain ⟨_, _, _, _, _, _, _, _, _, h_l_check_arms, h_c_check_arms, h_k_check_arms⟩ := Sh.fn_g (d := q_check_arms) (p := (Sh.gA K "check_arms")) (c.fn q_check_arms (Sh.at_ 3 rfl)) h_b_check_arms
  obtain ⟨_, _, _, _, _, _, _, _, _, h_l_check_many, h_c_check_many, h_k_check_many⟩ := Sh.fn_g (d := q_check_many) (p := (Sh.gA K "check_many")) (c.fn q_check_many (Sh.at_ 4 rfl)) h_b_check_many
  obtain ⟨_, _, _, _, _, _, _, _, _, h_l_check_place, h_c_check_place, h_k_check_place⟩ := Sh.fn_g (d := q_check_place) (p := (Sh.gA K "check_place")) (c.fn q_check_place (Sh.at_ 5 rfl)) h_b_check_place
  obtain ⟨_, _, _, _, _, _, _, _, _, h_l_row_of, h_c_row_of, h_k_row_of⟩ := Sh.fn_g (d := q_row_of) (p := (Sh.gA K "row_of")) (c.fn q_row_of (Sh.at_ 6 rfl)) h_b_row_of
  obtain ⟨_, _, _, _, _, _, _, _, h_l_t___init__, h_c_t___init__, h_k_t___init__⟩ := Sh.fn_k (d := q_t___init__) (p := (Sh.mA K (Sh.gA K "Tree") "__init__")) (c.fn q_t___init__ (Sh.at_ 7 rfl)) h_b_t___init__
  obtain ⟨_, _, _, _, _, _, _, _, h_l_t_of, h_c_t_of, h_k_t_of⟩ := Sh.fn_k (d := q_t_of) (p := (Sh.recA K (Sh.clsA K (Sh.gA K "Tree") "of") "classmethod")) (c.fn q_t_of (Sh.at_ 8 rfl)) h_b_t_of
  obtain ⟨_, _, _, _, _, _, _, _, _, h_l_t___len__, h_c_t___len__, h_k_t___len__⟩ := Sh.fn_g (d := q_t___len__) (p := (Sh.mA K (Sh.gA K "Tree") "__len__")) (c.fn q_t___len__ (Sh.at_ 9 rfl)) h_b_t___len__
  obtain ⟨_, _, _, _, _, _, _, _, _, h_l_t___contains__, h_c_t___contains__, h_k_t___contains__⟩ := Sh.fn_g (d := q_t___contains__) (p := (Sh.mA K (Sh.gA K "Tree") "__contains__")) (c.fn q_t___contains__ (Sh.at_ 10 rfl)) h_b_t___contains__
  obtain ⟨_, _, _, _, _, _, _, _, _, h_l_t___iter__, h_c_t___iter__, h_k_t___iter__⟩ := Sh.fn_g (d := q_t___iter__) (p := (Sh.mA K (Sh.gA K "Tree") "__iter__")) (c.fn q_t___iter__ (Sh.at_ 11 rfl)) h_b_t___iter__
  obtain ⟨_, _, _, _, _, _, _, _, _, h_l_t___getitem__, h_c_t___getitem__, h_k_t___getitem__⟩ := Sh.fn_g (d := q_t___getitem__) (p := (Sh.mA K (Sh.gA K "Tree") "__getitem__")) (c.fn q_t___getitem__ (Sh.at_ 12 rfl)) h_b_t___getitem__
  obtain ⟨_, _, _, _, _, _, _, _, _, h_l_t_parent, h_c_t_parent, h_k_t_parent⟩ := Sh.fn_g (d := q_t_parent) (p := (Sh.mA K (Sh.gA K "Tree") "parent")) (c.fn q_t_parent (Sh.at_ 13 rfl)) h_b_t_parent
  obtain ⟨_, _, _, _, _, _, _, _, _, h_l_t_way_to, h_c_t_way_to, h_k_t_way_to⟩ := Sh.fn_g (d := q_t_way_to) (p := (Sh.mA K (Sh.gA K "Tree") "way_to")) (c.fn q_t_way_to (Sh.at_ 14 rfl)) h_b_t_way_to
  obtain ⟨_, _, _, _, _, _, _, _, _, h_l_t_subtree, h_c_t_subtree, h_k_t_subtree⟩ := Sh.fn_g (d := q_t_subtree) (p := (Sh.mA K (Sh.gA K "Tree") "subtree")) (c.fn q_t_subtree (Sh.at_ 15 rfl)) h_b_t_subtree
  obtain ⟨_, _, _, _, _, _, _, _, _, h_l_m___init__, h_c_m___init__, h_k_m___init__⟩ := Sh.fn_g (d := q_m___init__) (p := (Sh.mA K (Sh.gA K "Mended") "__init__")) (c.fn q_m___init__ (Sh.at_ 16 rfl)) h_b_m___init__
  obtain ⟨_, _, _, _, _, _, _, _, _, h_l_m___eq__, h_c_m___eq__, h_k_m___eq__⟩ := Sh.fn_g (d := q_m___eq__) (p := (Sh.mA K (Sh.gA K "Mended") "__eq__")) (c.fn q_m___eq__ (Sh.at_ 17 rfl)) h_b_m___eq__
  obtain ⟨_, _, _, _, _, _, _, _, h_l_m_shows, h_c_m_shows, h_k_m_shows⟩ := Sh.fn_k (d := q_m_shows) (p := (Sh.mA K (Sh.gA K "Mended") "shows")) (c.fn q_m_shows (Sh.at_ 18 rfl)) h_b_m_shows
  obtain ⟨_, _, _, _, _, _, _, _, h_l_mend, h_c_mend, h_k_mend⟩ := Sh.fn_k (d := q_mend) (p := (Sh.gA K "mend")) (c.fn q_mend (Sh.at_ 19 rfl)) h_b_mend
  obtain ⟨_, _, _, _, _, _, _, _, _, h_l_sets_to_keep, h_c_sets_to_keep, h_k_sets_to_keep⟩ := Sh.fn_g (d := q_sets_to_keep) (p := (Sh.gA K "sets_to_keep")) (c.fn q_sets_to_keep (Sh.at_ 20 rfl)) h_b_sets_to_keep
  obtain ⟨_, _, _, _, _, _, _, _, _, h_l_mended_row, h_c_mended_row, h_k_mended_row⟩ := Sh.fn_g (d := q_mended_row) (p := (Sh.gA K "mended_row")) (c.fn q_mended_row (Sh.at_ 21 rfl)) h_b_mended_row
  obtain ⟨_, _, _, _, _, _, _, _, h_l_falling_chains, h_c_falling_chains, h_k_falling_chains⟩ := Sh.fn_c (d := q_falling_chains) (p := (Sh.gA K "falling_chains")) (c.fn q_falling_chains (Sh.at_ 22 rfl)) h_b_falling_chains
  obtain ⟨_, _, _, _, _, _, _, _, _, h_l_is_rising, h_c_is_rising, h_k_is_rising⟩ := Sh.fn_g (d := q_is_rising) (p := (Sh.gA K "is_rising")) (c.fn q_is_rising (Sh.at_ 23 rfl)) h_b_is_rising
  obtain ⟨_, _, _, _, _, _, _, _, _, h_l_is_falling, h_c_is_falling, h_k_is_falling⟩ := Sh.fn_g (d := q_is_falling) (p := (Sh.gA K "is_falling")) (c.fn q_is_falling (Sh.at_ 24 rfl)) h_b_is_falling
  obtain ⟨_, _, _, _, _, _, _, _, _, h_l__law_number, h_c__law_number, h_k__law_number⟩ := Sh.fn_g (d := q__law_number) (p := (Sh.gA K "_law_number")) (c.fn q__law_number (Sh.at_ 25 rfl)) h_b__law_number
  obtain ⟨_, _, _, _, _, _, _, _, _, h_l__law_take, h_c__law_take, h_k__law_take⟩ := Sh.fn_g (d := q__law_take) (p := (Sh.gA K "_law_take")) (c.fn q__law_take (Sh.at_ 26 rfl)) h_b__law_take
  obtain ⟨_, _, _, _, _, _, _, _, _, h_l__law_pick, h_c__law_pick, h_k__law_pick⟩ := Sh.fn_g (d := q__law_pick) (p := (Sh.gA K "_law_pick")) (c.fn q__law_pick (Sh.at_ 27 rfl)) h_b__law_pick
  obtain ⟨_, _, _, _, _, _, _, _, _, h_l__law_parent, h_c__law_parent, h_k__law_parent⟩ := Sh.fn_g (d := q__law_parent) (p := (Sh.gA K "_law_parent")) (c.fn q__law_parent (Sh.at_ 28 rfl)) h_b__law_parent
  obtain ⟨_, _, _, _, _, _, _, _, _, h_l__law_way, h_c__law_way, h_k__law_way⟩ := Sh.fn_g (d := q__law_way) (p := (Sh.gA K "_law_way")) (c.fn q__law_way (Sh.at_ 29 rfl)) h_b__law_way
  obtain ⟨_, _, _, _, _, _, _, _, _, h_l__law_arms, h_c__law_arms, h_k__law_arms⟩ := Sh.fn_g (d := q__law_arms) (p := (Sh.gA K "_law_arms")) (c.fn q__law_arms (Sh.at_ 30 rfl)) h_b__law_arms
  obtain ⟨_, _, _, _, _, _, _, _, _, h_l__law_keys, h_c__law_keys, h_k__law_keys⟩ := Sh.fn_g (d := q__law_keys) (p := (Sh.gA K "_law_keys")) (c.fn q__law_keys (Sh.at_ 31 rfl)) h_b__law_keys
  obtain ⟨_, _, _, _, _, _, _, _, _, h_l__law_is_heap, h_c__law_is_heap, h_k__law_is_heap⟩ := Sh.fn_g (d := q__law_is_heap) (p := (Sh.gA K "_law_is_heap")) (c.fn q__law_is_heap (Sh.at_ 32 rfl)) h_b__law_is_heap
  obtain ⟨_, _, _, _, _, _, _, _, _, h_l__law_are_chains, h_c__law_are_chains, h_k__law_are_chains⟩ := Sh.fn_g (d := q__law_are_chains) (p := (Sh.gA K "_law_are_chains")) (c.fn q__law_are_chains (Sh.at_ 33 rfl)) h_b__law_are_chains
  obtain ⟨_, _, _, _, _, _, _, _, _, h_l__law_is_mended, h_c__law_is_mended, h_k__law_is_mended⟩ := Sh.fn_g (d := q__law_is_mended) (p := (Sh.gA K "_law_is_mended")) (c.fn q__law_is_mended (Sh.at_ 34 rfl)) h_b__law_is_mended
  obtain ⟨_, _, _, _, _, _, _, _, _, h_l__law_loose, h_c__law_loose, h_k__law_loose⟩ := Sh.fn_g (d := q__law_loose) (p := (Sh.gA K "_law_loose")) (c.fn q__law_loose (Sh.at_ 35 rfl)) h_b__law_loose
  obtain ⟨_, _, _, _, _, _, _, _, _, h_l__law_parts, h_c__law_parts, h_k__law_parts⟩ := Sh.fn_g (d := q__law_parts) (p := (Sh.gA K "_law_parts")) (c.fn q__law_parts (Sh.at_ 36 rfl)) h_b__law_parts
  obtain ⟨_, _, _, _, _, _, _, _, _, h_l_law, h_c_law, h_k_law⟩ := Sh.fn_g (d := q_law) (p := (Sh.gA K "law")) (c.fn q_law (Sh.at_ 37 rfl)) h_b_law
  exact all_mk X G hfa h_aC h_aCM h_a_is_integer h_l_is_integer h_c_is_integer h_k_is_integer h_a_is_integer_from h_l_is_integer_from h_c_is_integer_from h_k_is_integer_from h_a_is_key h_l_is_key h_c_is_key h_k_is_key h_a_check_arms h_l_check_arms h_c_check_arms h_k_check_arms h_a_check_many h_l_check_many h_c_check_many h_k_check_many h_a_check_place h_l_check_place h_c_check_place h_k_check_place h_a_row_of h_l_row_of h_c_row_of h_k_row_of h_a_t___init__ h_i_t___init__ h_l_t___init__ h_c_t___init__ h_k_t___init__ h_w_t___init__ h_a_t_of h_r_t_of h_n_t_of h_l_t_of h_c_t_of h_k_t_of h_w_t_of h_a_t___len__ h_i_t___len__ h_n_t___len__ h_l_t___len__ h_c_t___len__ h_k_t___len__ h_a_t___contains__ h_i_t___contains__ h_n_t___contains__ h_l_t___contains__ h_c_t___contains__ h_k_t___contains__ h_a_t___iter__ h_i_t___iter__ h_n_t___iter__ h_l_t___iter__ h_c_t___iter__ h_k_t___iter__ h_a_t___getitem__ h_i_t___getitem__ h_n_t___getitem__ h_l_t___getitem__ h_c_t___getitem__ h_k_t___getitem__ h_a_t_parent h_i_t_parent h_l_t_parent h_c_t_parent h_k_t_parent h_a_t_way_to h_i_t_way_to h_l_t_way_to h_c_t_way_to h_k_t_way_to h_a_t_subtree h_i_t_subtree h_l_t_subtree h_c_t_subtree h_k_t_subtree h_a_m___init__ h_i_m___init__ h_l_m___init__ h_c_m___init__ h_k_m___init__ h_a_m___eq__ h_i_m___eq__ h_l_m___eq__ h_c_m___eq__ h_k_m___eq__ h_a_m_shows h_i_m_shows h_l_m_shows h_c_m_shows h_k_m_shows h_w_m_shows h_a_mend h_l_mend h_c_mend h_k_mend h_w_mend h_a_sets_to_keep h_l_sets_to_keep h_c_sets_to_keep h_k_sets_to_keep h_a_mended_row h_l_mended_row h_c_mended_row h_k_mended_row h_a_falling_chains h_l_falling_chains h_c_falling_chains h_k_falling_chains h_a_is_rising h_l_is_rising h_c_is_rising h_k_is_rising h_a_is_falling h_l_is_falling h_c_is_falling h_k_is_falling h_a__law_number h_l__law_number h_c__law_number h_k__law_number h_a__law_take h_l__law_take h_c__law_take h_k__law_take h_a__law_pick h_l__law_pick h_c__law_pick h_k__law_pick h_a__law_parent h_l__law_parent h_c__law_parent h_k__law_parent h_a__law_way h_l__law_way h_c__law_way h_k__law_way h_a__law_arms h_l__law_arms h_c__law_arms h_k__law_arms h_a__law_keys h_l__law_keys h_c__law_keys h_k__law_keys h_a__law_is_heap h_l__law_is_heap h_c__law_is_heap h_k__law_is_heap h_a__law_are_chains h_l__law_are_chains h_c__law_are_chains h_k__law_are_chains h_a__law_is_mended h_l__law_is_mended h_c__law_is_mended h_k__law_is_mended h_a__law_loose h_l__law_loose h_c__law_loose h_k__law_loose h_a__law_parts h_l__law_parts h_c__law_parts h_k__law_parts h_a_law h_l_law h_c_law h_k_law h_q_GREATEST_KEY h_q_MOST_ARMS h_q_MOST_PLACES h_z_all h_z_any h_z_bool h_z_enumerate h_z_int h_z_isinstance h_z_iter h_z_len h_z_list h_z_max h_z_min h_z_range h_z_reversed h_z_sorted h_z_sum h_z_tuple h_z_zip h_pg h_hd h_po_ h_sa h_na_nMany h_na_nArms h_na_nPl h_mk h_kc h_rd h_ga h_pgM h_hdM h_po_M h_saM h_na_mRow h_na_mKept h_na_mChains h_mkM h_kcM h_eneM h_eobM h_eniM h_entM h_kaM h_knM h_ktkM h_kmM h_kclM h_ktyM (c.em ((Sh.cdA K (Sh.gA K "falling_chains")), (He.tabOf K (Sh.cdA K (Sh.gA K "falling_chains")))) (by unfold tfs; simp)) (c.hd ((Sh.cdA K (Sh.gA K "falling_chains")), (He.tabOf K (Sh.cdA K (Sh.gA K "falling_chains")))) (by unfold tfs; simp)) (c.out ((Sh.cdA K (Sh.gA K "falling_chains")), (He.tabOf K (Sh.cdA K (Sh.gA K "falling_chains")))) (by unfold tfs; simp))
end Tw

open PySem PySem.W PySem.Calls PyProof.Rows in
set_option maxRecDepth 100000 in
set_option maxHeartbeats 0 in
theorem PySem.Challenge.cw_heaprows_k30_whole_mended_shown_holds : PySem.Challenge.rw_heaprows_k30_whole_mended_shown.Holds := by
  w_on; o_law
  refine HandSHeadRun.head_any (r := OpenLaw.row PySem.Challenge.rw_heaprows_k30_whole_mended_shown) (q := view (OpenLaw.row PySem.Challenge.rw_heaprows_k30_whole_mended_shown).prog [41]) (H := Tw.hk) (ob := Sh.obT Tw.adr Tw.fns Tw.exs Tw.tfs) (M := 20000) (loose := Tw.loose) (d := HandSHeadRun.topDef (OpenLaw.row PySem.Challenge.rw_heaprows_k30_whole_mended_shown).prog 41) (kwd := []) (Sh.obT_eq _ _ _ _)
    (by kernel_rfl) (fun s => by kernel_rfl) Tw.run (by kernel_rfl) (by kernel_rfl) (by kernel_rfl) (by rfl) (by first | assumption | decide +kernel) (by decide +kernel) ⟨rfl, rfl, rfl, rfl, rfl, by decide +kernel⟩ ?hw ?hc
  case hw => w_witness2
  case hc =>
    refine LamX.walk_ofTsE (l := PySem.Challenge.rw_heaprows_k30_whole_mended_shown) (n := 63) (k := 16) (x := "script") (CX := fun _ => L2.CX0) rfl (by decide) (by kernel_rfl) ⟨rfl, by decide, by decide⟩ ?F (fun _ _ _ _ _ z => z)
    intro w mg fa h Y G hmg0
    obtain ⟨K, KX, c⟩ := Y
    have hmg : mg ("law" : PySem.Str) = some (.ref fa) := (congrArg mg (show (HandSHeadRun.topDef (OpenLaw.row PySem.Challenge.rw_heaprows_k30_whole_mended_shown).prog 41).name = ("law" : PySem.Str) by kernel_rfl)).symm.trans hmg0
    exact ⟨K, KX, Tw.law_at KX c G hmg⟩
