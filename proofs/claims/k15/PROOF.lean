import PyProof.Rows.All
import Wide.All
import OpenK.AllK
import Wide.FinOn
import HandS.ForMost
import HandS.ForExc
import HandS.IsInst
import HandS.MakeKwOnly
import HandS.ClsMeth
import HandS.Conv
import HandS.Codes
import HandS.Walk
import HandS.Style
import HandS.Flow
import HandS.Wide
import HandS.OwnEq
import HandS.OwnIter
import HandS.IterVal
import KE.KOwnIter
import PyProof.FactsAll.tuple_iterator_1
import HandS.Deep
import HandS.SortRule
import KE.GoesMore
import KE.GoesEnum
import KE.KLam
import KE.DataMinKey
import HandS.Base
import HandS.Call
import HandS.List
import HandS.Comp
import HandS.Lambda
import HandS.Nested
import HandS.Keys
import HandS.SortInts
import PyProof.NeKinds
import HandS.SetFor
import HandS.Strs
import HandS.TupSets
import KE.SortData
import HandS.Gcd
import KE.KMathGC
import HandS.Sort
import PyProof.AutoSeq1
import KE.KTurns
import HandS.TupLe
import KE.KSortTup
import HandS.Defaults
import HandS.Zip
import HandS.TryOnly
import HandS.TupAny
import KE.DataFind
import PyProof.SumWalkG
import KE.DataMinMax
import HandS.TupMul
import KE.GoesZip
import HandS.Iter
import HandS.Dict
import HandS.More
import HandS.DictComp
import HandS.DictEq
import KE.KDictList
import HandS.SetKeys
import HandS.DictTup
import PyProof.DictMoreH
import KE.KeyNested
import HandS.TupLen
import KE.KDictZip
import HandS.ListItems
import KE.KStateDown
import HandS.Head0
import HandS.Head1
import HandS.Head2
import HandS.HeadHook4
import HandS.HeadWalk
import KE.KNestM
import HandS.EndTab
import HandS.Rev
import HandS.Small
import HandS.Head3
import HandS.HeadEnd
import PySem.Challenge.RW_heaprows_k15_whole_bounds_long
set_option Elab.async false
set_option maxRecDepth 100000
set_option Elab.async false
set_option linter.all false
set_option maxRecDepth 100000
set_option maxHeartbeats 2000000
namespace Tw
open PySem PySem.Spec PyProof.Rows L2

/-! own rules: an instance with dunder methods -/
/-- a dunder method of the class at C, its def at f -/
structure Dn (K : PySem.W.Frag) (C : Addr) (m : Str) (f : Addr) : Prop where
  at_ : PySem.W.findIn K (.ref C) m = some (some (.ref f))
  fn : PySem.W.isFn K (.ref f) = true
  fi : PySem.W.fnIn K f = true


section
variable {X : Cx} {CX : CXT} {k n : Nat} {f C : Addr} {fd : FuncData} {ps : List Str} {sp : Sp} {E : XK} {o e : Expr} {pos : Pos} {ta tb : TE} {A1 : Around}
  {pins : List (Addr × Obj)} {σ : L2.St} {H : Hp} {s : Shared} {Q : VK}
theorem Sub.env0 (sb : Sub X n A1) (I : Inv X pins σ H s) : Env0 X.prog X.w X.K X.mg X.base A1 X.stack s H := by
  have q := I.env0
  exact ⟨by rw [sb.fr]; exact q.frames, q.mod, q.bs, q.bsz, q.funs, q.frf, q.hok, q.bare⟩
theorem run_sub {us : List Value} {vs : List V} (F : FnOk X.prog X.w X.K X.mg X.base CX k f fd ps sp) (sb : Sub X k A1) (hb : Binds X.K fd ps []) (hx : Passes CX X E) (I : Inv X pins σ H s) (r : Vals vs us) (h : sp vs H Q E) :
    wpAny (model X.prog X.w) A1 (call (.ref f) us) (EP X pins σ Q) X.xe s := by
  have hl : us.length = ps.length := by rw [← r.length]; exact F.len _ _ _ _ h
  have hb1 : BindsTo s fd ⟨us, []⟩ (ps.zip us) := by
    have z := hb s us I.kIn (by rw [List.append_nil]; exact hl)
    rw [List.append_nil] at z
    exact z
  refine wpAny_call (codeAny_mono (F.run A1 X.stack s H ⟨us, []⟩ us vs Q E sb.room (Sub.env0 sb I) hb1 r h) fun z s' hq => ?_)
  match z, hq with
  | .error e, hq => exact hx pins σ H s e s' I hq
  | .ok (.ret u), hq => exact I.after hq
  | .ok .next, hq => exact False.elim hq
  | .ok .brk, hq => exact False.elim hq
  | .ok .cont, hq => exact False.elim hq
theorem relR (a : Addr) : RelV (V.ref a) (Value.ref a) := rfl
theorem relB (b : Bool) : RelV (V.bl b) (Value.bool b) := rfl
theorem relI (i : Int) (t : Tok) : RelV (V.int i) (Value.int i t) := ⟨t, rfl⟩
/-- o[e] by the class's own def -/
def tGi (C : Addr) (sp : Sp) (E : XK) (ta tb : TE) : TE := fun σ H Q => ta σ H fun x H1 => tb σ H1 fun y H2 =>
  ∃ a dx fs, x = .ref a ∧ H2 a = some (.ins C dx fs) ∧ sp [.ref a, y] H2 Q E
theorem pe_gi (hd : Dn X.K C "__getitem__" f) (F : FnOk X.prog X.w X.K X.mg X.base CX k f fd ps sp) (hr : Room (k + 1) X.A) (hb : Binds X.K fd ps []) (hx : Passes CX X E) (ho : PE X o ta) (he : PE X e tb)
    (hs : ∀ v u, subscripted e true v u = runValue (.builtin "lifetime.subscript" ⟨[v, u], []⟩) := by intro _ _; with_unfolding_all rfl) :
    PE X (.Subscript o e pos) (tGi C sp E ta tb) := by
  refine ⟨fun pins s σ H Q I h => ?_⟩
  refine Subscript_ (binT ho he (R := fun x y H2 => ∃ a dx fs, x = .ref a ∧ H2 a = some (.ins C dx fs) ∧ sp [.ref a, y] H2 Q E) I h fun v u s2 x y H2 I2 rx ry ⟨a, dx, fs, ex, ha, q⟩ => ?_)
  subst ex
  obtain rfl : v = Value.ref a := rx
  obtain ⟨mA, O, rr, _, _, _⟩ := ins_get I2.hok ha
  obtain ⟨od, J, hl⟩ := O.look
  obtain ⟨m0, hF⟩ := I2.fr
  exact PySem.W.sub_K hF I2.ok.mod.kin J hd.at_ hd.fi hd.fn (run_sub F (Sub.in1 ⟨hr, rfl⟩) hb hx I2 (.cons (relR a) (.cons ry .nil)) q) (hs _ _)
/-- e in o, by the class's own def -/
def rIn (C : Addr) (sp : Sp) (E : XK) (neg : Bool) : R2 := fun x y H Q =>
  ∃ a dx fs, y = .ref a ∧ H a = some (.ins C dx fs) ∧ sp [.ref a, x] H (fun v H' => ∃ b, v = .bl b ∧ Q (.bl (if neg then !b else b)) H') E
theorem op_in_own (hd : Dn X.K C "__contains__" f) (F : FnOk X.prog X.w X.K X.mg X.base CX k f fd ps sp) (hr : Room k X.A) (hb : Binds X.K fd ps []) (hx : Passes CX X E) : OpR X (compareOp .In) (rIn C sp E false) := by
  intro pins s σ H x y v u Q I rx ry ⟨a, dx, fs, ey, ha, q⟩
  subst ey
  obtain rfl : u = Value.ref a := ry
  obtain ⟨mA, O, rr, _, _, _⟩ := ins_get I.hok ha
  obtain ⟨od, J, hl⟩ := O.look
  obtain ⟨m0, hF⟩ := I.fr
  refine PySem.W.in_K hF I.ok.mod.kin J hd.at_ hd.fn (thn (run_sub F ⟨hr, rfl⟩ hb hx I (.cons (relR a) (.cons rx .nil)) q) fun r s' ⟨z, H', I', rz, b, ez, q'⟩ => ?_)
  subst ez
  obtain rfl : r = Value.bool b := rz
  exact wpAny_truthy_bool ⟨_, _, I', relB b, q'⟩
/-- len(o) by the class's own def -/
def rLenO (C : Addr) (sp : Sp) (E : XK) : List V → Hp → VK → Prop := fun xs H Q =>
  ∃ a dx fs, xs = [.ref a] ∧ H a = some (.ins C dx fs) ∧ sp [.ref a] H (fun v H' => ∃ n : Nat, v = .int n ∧ n < 1000 ∧ Q (.int n) H') E
theorem call_len_own (hd : Dn X.K C "__len__" f) (F : FnOk X.prog X.w X.K X.mg X.base CX k f fd ps sp) (hr : Room (k + 1) X.A) (hb : Binds X.K fd ps []) (hx : Passes CX X E) : CallR X (.builtin "len") (rLenO C sp E) := by
  intro pins s σ H xs us Q I rv ⟨a, dx, fs, ex, ha, q⟩
  subst ex
  obtain ⟨u, rfl, ru⟩ := rv.one
  obtain rfl : u = Value.ref a := ru
  obtain ⟨mA, O, rr, _, _, _⟩ := ins_get I.hok ha
  obtain ⟨od, J, hl⟩ := O.look
  obtain ⟨m0, hF⟩ := I.fr
  refine PySem.W.len_K hF I.ok.mod.kin J hd.at_ hd.fn (thn (run_sub F (Sub.in1 ⟨hr, rfl⟩) hb hx I (.cons (relR a) .nil) q) fun r s' ⟨z, H', I', rz, n, ez, hn, q'⟩ => ?_)
  subst ez
  obtain ⟨t, rfl⟩ := rz
  exact ⟨⟨by omega, by omega⟩, _, _, I'.tok _, relI _ _, q'⟩
end

/-! for x in o, o an instance whose __iter__ says: return iter(self.F), F a tuple -/
def itTup (t : Addr) (i : Nat) : Obj := { cls := .type "tuple_iterator", data := .fields #[.ref t, .int (i : Nat) 0] }
def ItT (t it : Addr) (i : Nat) : HO := .ext fun h => h.get? it = some (itTup t i)
def rIterT (K : PySem.W.Frag) (n : Nat) : List V → Hp → VK → Prop := fun xs H Q => ∃ (t : Addr) (zs : List V), xs = [.ref t] ∧ SqT K H t zs ∧ ∀ it, H it = Option.none → n ≤ it → Q (.ref it) (upd H it (ItT t it 0))
section
variable {X : Cx}
theorem call_iterT : CallR X (.builtin "iter") (rIterT X.K X.s_0.heap.objs.size) := by
  intro pins s σ H xs us Q I r ⟨t, zs, e, hq, q⟩
  subst e
  obtain ⟨u, rfl, ru⟩ := r.one
  obtain rfl : u = Value.ref t := ru
  obtain ⟨its, rv, pl, hz⟩ := I.tuple hq
  refine Calls.call_function_entry (by decide +kernel) (by decide +kernel) PySem.W.kdk_entry_iter (PySem.W.kdk_args_iter _) ?_
  unfold Builtin.«iter»
  refine wpAny_bind (m := someArgs "iter" 1 2 _) (wpAny_of_eq (a := [Value.ref t]) (by first | rfl | kernel_rfl!) ?_)
  show wpAny _ _ (pyIter (.ref t) >>= _) _ _ _
  refine wpAny_bind (wpAny_pyIter_tuple (show s.heap.IsTuple t its.toArray from pl) ?_)
  have g : (s.heap.push (itTup t 0)).get? s.heap.objs.size = some (itTup t 0) := Heap.get?_push_size _ rfl
  have ok : ObjOk X.prog X.w (upd H s.heap.objs.size (ItT t s.heap.objs.size 0)) (s.heap.push (itTup t 0)) s.heap.objs.size (ItT t s.heap.objs.size 0) := ⟨g, ⟨_, g⟩, fun _ _ q k => k _ q⟩
  exact wpAny_pure ⟨_, rfl, .ref s.heap.objs.size, _, I.laid (t' := s.toks) (fun b u e => Heap.get?_push_of_some _ e) (Nat.le_refl _) ok, relR _, q _ (I.hok.fresh (Nat.le_refl _)) I.sz⟩
end

/-- a promise that may speak of how many objects there are when the def is called -/
def FnIt (P : Program) (w : World) (K : PySem.W.Frag) (mg : Str → Option Value) (base : Heap) (k : Nat) (f : Addr) (fd : FuncData) (ps : List Str) (sp : Nat → List V → Hp → VK → Prop) : Prop :=
  ∀ (A : Around) (outer : List Env) (s : Shared) (H : Hp) (us : List Value) (vs : List V) (Q : VK), Room k A → Env0 P w K mg base A outer s H → BindsTo s fd ⟨us, []⟩ (ps.zip us) → vs.length = ps.length → Vals vs us →
    sp s.heap.objs.size vs H Q → codeAny (model P w) A (.call (.ref f) ⟨us, []⟩) (CR CX0 outer P w H s Q E0) s
section
variable {P : Program} {w : World} {K : PySem.W.Frag} {mg : Str → Option Value} {base : Heap}
theorem fnIt_of {x qual : Str} {st : Stmt} {f : Addr} {fd : FuncData} {N ps : List Str} {k : Nat} {sp : Nat → List V → Hp → VK → Prop} (F : Fun K x qual st f fd) (S : FnScope N ps (defScope st))
    (hbody : ∀ (cdv : Value) (A : Around) (outer : List Env) (s : Shared) (H : Hp) (vs : List V) (Q : VK), Room k (A.deeper (envOfC qual (defScope st) s.heap.objs.size f cdv)) → sp s.heap.objs.size vs H Q →
      ∃ t, PSs (cxOf CX0 P w K mg base N qual (defScope st) f cdv A outer s H E0).nox (defBody st) t ∧ t { nx := fun _ H' => Q .non H', rt := Q } (start N vs) H) : FnIt P w K mg base (k + 1) f fd ps sp := by
  obtain ⟨oc, od, kV, doc, pm, an, cdv, ct, osl, rfl, lk, hcd⟩ := F.ex
  intro A outer s H us vs Q hr e0 hb hl r hsp
  have kin : K.In s.heap := e0.mod.kin.keeps fun b o e => (e0.bs b o e).1
  have lim : s.heap.NoLimit := e0.mod.nolimit.keeps fun b o e => (e0.bs b o e).1
  have kinds : ∀ y ∈ ps.zip us, (defScope st).names.lookup y.1 = some .local ∨ ((defScope st).names.lookup y.1 = some .cell ∧ ((cellsFrom (s.heap.objs.size + 1) (defScope st).names []).lookup y.1).isSome = true) := by
    intro y hy
    cases S.par y.1 (List.of_mem_zip (a := y.1) (b := y.2) hy).1 with
    | inl q => exact .inl q
    | inr q => exact .inr ⟨q, PySem.W.cellsFrom_some _ _ _ (.inl q)⟩
  apply codeAny_call_function hr.depth (kin _ _ lk) rfl S.co S.gen rfl (PySem.W.codeRec_of kin hcd) (hb _ _ _ _ ?_)
  apply wpAny_newFunctionEnv_cells S.kind kinds
  intro env he s1 x
  subst he
  refine ⟨lim.keeps x.toInCall.keep, codeAny_func ?_⟩
  obtain ⟨t, ht, hq⟩ := hbody cdv A outer s H vs Q (hr.deeper _) hsp
  have I := inv_start (CX := CX0) (P := P) (w := w) (E := E0) (cd := cdv) (qual := qual) (f := f) (outer := outer) S hr.hd e0 hl r x
  refine wpAny_mono (ht.nox.run [] s1 (start N vs) H _ I hq) (fun fl s' hs => ?_) fun e s' hs => hs
  match fl, hs with
  | .ret u, ⟨v, σ', H', J, rv, q⟩ => exact ⟨v, H', J.os, J.bare, J.base, J.hok, rv, q⟩
  | .next, ⟨σ', H', J, q⟩ => exact ⟨V.non, H', J.os, J.bare, J.base, J.hok, rfl, q⟩
  | .brk, ⟨_, _, _, q⟩ => exact False.elim q
  | .cont, ⟨_, _, _, q⟩ => exact False.elim q
end
/-- what such an __iter__ promises -/
def spIter (K : PySem.W.Frag) (C : Addr) (fld : Str) : Nat → List V → Hp → VK → Prop := fun n vs H Q => ∃ a dx fs t zs, vs = [.ref a] ∧ H a = some (.ins C dx fs) ∧ fs.lookup fld = some (.ref t) ∧ SqT K H t zs ∧
  ∀ it, H it = Option.none → n ≤ it → Q (.ref it) (upd H it (ItT t it 0))
/-- x in o, for a loop: o's own tuple is walked -/
def iOwn (K : PySem.W.Frag) (C : Addr) (fld : Str) (to : TE) : TI := fun σ H R => to σ H fun x H1 => ∃ a dx fs t zs, x = .ref a ∧ H1 a = some (.ins C dx fs) ∧ fs.lookup fld = some (.ref t) ∧ SqT K H1 t zs ∧ R (Itt K t) H1
section
variable {X : Cx} {k : Nat} {f C : Addr} {fd : FuncData} {fld : Str} {tg o : Expr} {to : TE} {pins : List (Addr × Obj)} {σ : L2.St} {H : Hp} {s : Shared} {A1 : Around}
theorem run_iter {a t dx : Addr} {fs : List (Str × V)} {zs : List V} (F : FnIt X.prog X.w X.K X.mg X.base k f fd ["self"] (spIter X.K C fld)) (sb : Sub X k A1) (hb : Binds X.K fd ["self"] []) (I : Inv X pins σ H s)
    (ha : H a = some (.ins C dx fs)) (hf : fs.lookup fld = some (.ref t)) (ht : SqT X.K H t zs) {E : Value → Shared → Prop} :
    wpAny (model X.prog X.w) A1 (call (.ref f) [.ref a]) (fun u s' => ∃ it, u = .ref it ∧ s.heap.objs.size ≤ it ∧ H it = Option.none ∧ Inv X pins σ (upd H it (ItT t it 0)) s') E s := by
  have hb1 : BindsTo s fd ⟨[.ref a], []⟩ ((["self"] : List Str).zip [Value.ref a]) := by
    have z := hb s [.ref a] I.kIn rfl
    exact z
  refine wpAny_call (codeAny_mono (F A1 X.stack s H [.ref a] [.ref a] (fun v H' => ∃ it, v = .ref it ∧ s.heap.objs.size ≤ it ∧ H it = Option.none ∧ H' = upd H it (ItT t it 0)) sb.room (Sub.env0 sb I) hb1 rfl (.cons (relR a) .nil)
    ⟨a, dx, fs, t, zs, rfl, ha, hf, ht, fun it h0 hn => ⟨it, rfl, hn, h0, rfl⟩⟩) fun z s' hq => ?_)
  match z, hq with
  | .error e, hq => exact hq.elim
  | .ok (.ret u), hq =>
    obtain ⟨v, H', I', rv, it, ev, hn, h0, eH⟩ := I.after hq
    subst ev
    rw [eH] at I'
    obtain rfl : u = Value.ref it := rv
    exact ⟨it, rfl, hn, h0, I'⟩
  | .ok .next, hq => exact False.elim hq
  | .ok .brk, hq => exact False.elim hq
  | .ok .cont, hq => exact False.elim hq
theorem pi_own (hd : Dn X.K C "__iter__" f) (F : FnIt X.prog X.w X.K X.mg X.base k f fd ["self"] (spIter X.K C fld)) (hr : Room k X.A) (hb : Binds X.K fd ["self"] []) (ho : PE X o to) : PI X tg o (iOwn X.K C fld to) := by
  refine ⟨fun pins s σ H R I h => ?_⟩
  refine thn (ho.run pins s σ H _ I h) fun u s1 ⟨x, H1, I1, rx, a, dx, fs, t, zs, ex, ha, hf, ht, q⟩ => ?_
  subst ex
  obtain rfl : u = Value.ref a := rx
  obtain ⟨mA, O, rr, _, _, _⟩ := ins_get I1.hok ha
  obtain ⟨od, J, hl⟩ := O.look
  obtain ⟨m0, hF⟩ := I1.fr
  refine PySem.W.owit_iter hF I1.ok.mod.kin J hd.at_ hd.fn (thn (run_iter F ⟨hr, rfl⟩ hb I1 ha hf ht) fun r s2 ⟨it, er, hn, h0, I2⟩ => ?_)
  subst er
  have e2 : upd H1 it (ItT t it 0) it = some (ItT t it 0) := upd_same
  have g : s2.heap.get? it = some (itTup t 0) := (I2.hok it _ e2).1
  have hT : s2.TypeIs (.ref it) "tuple_iterator" := ⟨_, g, rfl⟩
  have hfp := ItX.inv_fp I2 e2 (Nat.le_trans I1.sz hn)
  have I3 := ItX.inv_drop I2 e2
  rw [ItX.dropH_upd h0] at I3 hfp
  unfold PySem.W.OwitIt
  refine wpAny_specialOf (name := Str.ofString "__next__") hT PySem.F.slot_tuple_iterator_next.lookup ?_
  refine ⟨it, [it], _, _, H1, rfl, I3, turn_tuple t it, ⟨_, g, rfl, rfl⟩, fun b hb => ?_, q⟩
  rw [List.mem_singleton.mp hb]
  exact hfp
end
/-! C.m(e, .., k = v, ..), m a classmethod; cls(e, .., k = v, ..), cls a local name that holds the class -/
def tCMethK (C : Addr) (n m : Nat) (sp : Sp) (gV : List V → List V → List V) (E : XK) (ta : TE) (t tk : TA) : TE := fun σ H Q => ta σ H fun x H1 => x = .ref C ∧ t σ H1 fun vs H2 => tk σ H2 fun zs H3 => (.ref C :: vs).length = n ∧ zs.length = m ∧ sp (gV (.ref C :: vs) zs) H3 Q E
def tMakeLK (i : Nat) (C : Addr) (n m : Nat) (sp : Sp) (gV : List V → List V → List V) (E : XK) (t tk : TA) : TE := fun σ H Q => σ[i]? = some (some (.ref C)) ∧ tMakeK C n m sp gV E t tk σ H Q
section
variable {X : Cx} {CX : CXT} {k n i : Nat} {C p g f : Addr} {mc : Value} {sp : Sp} {E : XK} {o e : Expr} {es : List Expr} {kws : List Keyword} {m x : Str} {pos apos xpos : Pos} {ta : TE} {t tk : TA} {pl : Sem Bool} {fd : FuncData} {ps ks : List Str}
  {gv : List Value → List Value → List Value} {gV : List V → List V → List V}
theorem pe_cmethK (he : PE X o ta) (r : ClX.CRead X.K C mc) (c : ClX.CMet X.K C mc m p g) (F : FnOk X.prog X.w X.K X.mg X.base CX k g fd ps sp) (hr : Room k X.A) (hb : KBn X.K fd ps n ks gv gV) (hx : Passes CX X E) (ha : PA X (e :: es) t) (hkw : PK X kws tk)
    (hall : (backToKw pos (keywordEach kws X.env)).all (·.1.isSome) = true := by rfl) (hks : (backToKw pos (keywordEach kws X.env)).filterMap (·.1) = ks := by rfl)
    (hst : starEach (e :: es) X.env = (false, eval e X.env) :: starEach es X.env := by rfl) (hpl : ((backTo pos (starEach (e :: es) X.env)).any (·.1) || (backToKw pos (keywordEach kws X.env)).any (·.1.isNone)) = false := by rfl)
    (ht : eval (.Call (.Attribute o m apos) (e :: es) kws pos) X.env = (do
      let ov ← eval o X.env
      standAt apos.atName
      let (f, first) ← holding [ov] (getMethod ov m pl)
      callWith pos f first (backTo pos (starEach (e :: es) X.env)) (backToKw pos (keywordEach kws X.env))) := by rfl) :
    PE X (.Call (.Attribute o m apos) (e :: es) kws pos) (tCMethK C n ks.length sp gV E ta t tk) := by
  refine ⟨fun pins s σ H Q I h => ?_⟩
  refine PySem.W.methodCall_KW (pl := pl) (thn (he.run pins s σ H _ I h) fun u s1 ⟨x, H1, I1, rx, ex, q⟩ => ?_) ht
  subst ex
  obtain rfl : u = Value.ref C := rx
  refine ClX.getmethcm_ok I1 r c fun s2 I2 => ?_
  refine PySem.W.callWith_of (P := PySem.W.MethP X.K s1.heap.objs.size g (.ref C)) hpl (PySem.W.keeps_M c.fi) (evalArgs_kw2 hall (thn (ha.run pos _ s2 σ H1 _ I2 q) fun us s3 ⟨vs, H2, I3, rv, q2⟩ => ?_) hst)
  refine thn (hkw.run pos _ s3 σ H2 _ I3 q2) fun ws s4 ⟨zs, H3, I4, rz, l1, l2, q3⟩ => ⟨⟨ClX.pin_at I4, I4.kIn⟩, ?_⟩
  rw [hks]
  have r2 : Vals (V.ref C :: vs) (Value.ref C :: us) := .cons (relR C) rv
  have n1 : (Value.ref C :: us).length = n := r2.length.symm.trans l1
  have I5 := ClX.unpin I4
  refine wpAny_call (PySem.W.method_call (ClX.pin_at I4) (codeAny_mono (F.run X.A X.stack s4 H3 ⟨Value.ref C :: us, ks.zip ws⟩ _ _ Q E hr I5.env0 (hb.to _ (Value.ref C :: us) ws I5.kIn n1 (rz.length.symm.trans l2)) (hb.rel r2 rz) q3) fun z s' hq => ?_))
  match z, hq with
  | .error e, hq => exact hx pins σ H3 s4 e s' I5 hq
  | .ok (.ret u), hq => exact I5.after hq
  | .ok .next, hq => exact False.elim hq
  | .ok .brk, hq => exact False.elim hq
  | .ok .cont, hq => exact False.elim hq
theorem pe_makeLK (M : Mk X.K C f) (F : FnOk X.prog X.w X.K X.mg X.base CX k f fd ps sp) (hr : Room (k + 1) X.A) (hb : KBn X.K fd ps (n + 1) ks gv gV) (hx : Passes CX X E) (ha : PA X (e :: es) t) (hkw : PK X kws tk)
    (hN : X.N[i]? = some x) (hv : Vis X.env.scope x) (hd : (x == ("__debug__" : Str)) = false := by decide) (hcd : (x == ("__classdict__" : Str)) = false := by decide)
    (hall : (backToKw pos (keywordEach kws X.env)).all (·.1.isSome) = true := by rfl) (hks : (backToKw pos (keywordEach kws X.env)).filterMap (·.1) = ks := by rfl)
    (hst : starEach (e :: es) X.env = (false, eval e X.env) :: starEach es X.env := by rfl) (hpl : ((backTo pos (starEach (e :: es) X.env)).any (·.1) || (backToKw pos (keywordEach kws X.env)).any (·.1.isNone)) = false := by rfl) :
    PE X (.Call (.Name x xpos) (e :: es) kws pos) (tMakeLK i C n ks.length sp gV E t tk) := by
  refine ⟨fun pins s σ H Q I ⟨h0, h⟩ => ?_⟩
  refine wpAny_Call_Name_kw (thn ((pe_var (pos := xpos) (i := i) hN hv hd hcd).run pins s σ H (fun v H1 => v = .ref C ∧ H1 = H) I ⟨.ref C, h0, rfl, rfl⟩) fun u s1 ⟨v, H1, I1, r1, ev, eH⟩ => ?_)
  subst ev
  rw [eH] at I1
  obtain rfl : u = Value.ref C := r1
  refine PySem.W.callWith_KW (h₀ := X.base) I1.ok.mod.kin M.kp hall (thn (ha.run pos pins s1 σ H _ I1 h) fun us s2 ⟨vs, H2, I2, r, q⟩ => ?_) hpl hst
  refine thn (hkw.run pos pins s2 σ H2 _ I2 q) fun ws s3 ⟨zs, H3, I3, rz, l1, l2, q2⟩ => ⟨I3.kIn, ?_⟩
  rw [hks]
  exact run_makeK M F hr hb hx I3 r rz l1 l2 q2
end

/-! heaps that only grow -/
theorem Same.up {H : Hp} {p : Addr} {o : HO} (h : H p = Option.none) : Same H (upd H p o) := fun b u e => by
  rw [upd_ne (ne_of_none e h)]
  exact e
/-- a list under way at D, which was not there in H1 -/
structure Acc (H1 : Hp) (D : Addr) (acc : List V) (H : Hp) : Prop where
  s : Same H1 H
  n : H1 D = Option.none
  a : H D = some (.lst acc)
theorem Acc.start {H1 : Hp} {D : Addr} (n : H1 D = Option.none) : Acc H1 D [] (upd H1 D (.lst [])) := ⟨Same.up n, n, upd_same⟩
theorem Acc.same {H1 H H' : Hp} {D : Addr} {acc : List V} (h : Acc H1 D acc H) (s : Same H H') : Acc H1 D acc H' := ⟨h.s.trans s, h.n, s _ _ h.a⟩
theorem Acc.push {H1 H : Hp} {D : Addr} {acc zs : List V} (h : Acc H1 D acc H) : Acc H1 D zs (upd H D (.lst zs)) :=
  ⟨fun b o e => by rw [upd_ne (ne_of_none e h.n)]; exact h.s b o e, h.n, upd_same⟩
theorem Same.none' {H H' : Hp} (s : Same H H') {p : Addr} (h : H' p = Option.none) : H p = Option.none := s.free h
theorem Same.of_upd {H H' : Hp} {p : Addr} {o : HO} (h : H p = Option.none) (s : Same (upd H p o) H') : Same H H' := (Same.up h).trans s
/-- a list of ints as values -/
theorem ints_at {ns : List Int} {i : Nat} {x : V} (h : (ns.map V.int)[i]? = some x) : ∃ (hi : i < ns.length), x = .int ns[i] := by
  rw [List.getElem?_map] at h
  cases e : ns[i]? with
  | none => rw [e] at h; cases h
  | some u =>
    rw [e] at h
    obtain ⟨hi, rfl⟩ := List.getElem?_eq_some_iff.mp e
    exact ⟨hi, (Option.some.inj h).symm⟩

/-! comprehensions that pick -/
section
variable {α : Type} {H1 H : Hp} {D : Addr} {ks : List α} {f : α → Option V} {i : Nat} {c : α → V}
def PickI (H1 : Hp) (D : Addr) (ks : List α) (f : α → Option V) : Nat → Hp → Prop := fun i H => Acc H1 D ((ks.take i).filterMap f) H
theorem pick_start (n : H1 D = Option.none) : PickI H1 D ks f 0 (upd H1 D (.lst [])) := Acc.start n
theorem take_fm (hi : i < ks.length) : (ks.take (i + 1)).filterMap f = (ks.take i).filterMap f ++ (f ks[i]).toList := by
  rw [List.take_succ_eq_append_getElem hi, List.filterMap_append]
  cases h : f ks[i] <;> simp [h]
theorem pick_yes {H' : Hp} {y : V} (hi : i < ks.length) (hl : ks.length ≤ 1000) (e : f ks[i] = some y) (s : Same H H') (h : PickI H1 D ks f i H) :
    ∃ acc, H' D = some (.lst acc) ∧ acc.length < sizeLine ∧ PickI H1 D ks f (i + 1) (upd H' D (.lst (acc ++ [y]))) := by
  have h2 := Acc.same h s
  refine ⟨_, h2.a, small1000 ?_, ?_⟩
  · exact Nat.le_trans (Nat.le_trans (List.length_filterMap_le _ _) (List.length_take_le _ _)) (by omega)
  · unfold PickI
    rw [take_fm hi, e]
    exact h2.push
theorem pick_no {H' : Hp} (hi : i < ks.length) (e : f ks[i] = none) (s : Same H H') (h : PickI H1 D ks f i H) : PickI H1 D ks f (i + 1) H' := by
  unfold PickI
  rw [take_fm hi, e, Option.toList_none, List.append_nil]
  exact Acc.same h s
theorem pick_end {m : Nat} (hm : m = ks.length) (h : PickI H1 D ks f m H) : Acc H1 D (ks.filterMap f) H := by
  subst hm
  unfold PickI at h
  rw [List.take_length] at h
  exact h
theorem map_at {x : V} (h : (ks.map c)[i]? = some x) : ∃ hi : i < ks.length, x = c ks[i] := by
  rw [List.getElem?_map] at h
  cases e : ks[i]? with
  | none => rw [e] at h; cases h
  | some u =>
    rw [e] at h
    obtain ⟨hi, rfl⟩ := List.getElem?_eq_some_iff.mp e
    exact ⟨hi, (Option.some.inj h).symm⟩
end
end Tw

set_option Elab.async false
set_option linter.all false
set_option maxRecDepth 100000
set_option maxHeartbeats 2000000
namespace Tw
open PySem PySem.Spec PyProof.Rows L2
open PySem.W (InstAt looks_findIn looks_subIn ifBound_K cmp_K)
/-- a class with an own __eq__ and the usual != -/
structure EqC (K : PySem.W.Frag) (C f : Addr) : Prop where
  eq : PySem.W.findIn K (.ref C) "__eq__" = some (some (.ref f))
  fn : PySem.W.isFn K (.ref f) = true
  ne : PySem.W.findIn K (.ref C) "__ne__" = some (some (.builtin "object.__ne__"))
  ob : PySem.W.subIn K (.ref C) (.type "object") = some true
  ni : PySem.W.subIn K (.type "int") (.ref C) = some false
  nt : PySem.W.subIn K (.type "tuple") (.ref C) = some false

section
variable {prog : Program} {w : World} {A : Around} {E : Value → Shared → Prop} {s : Shared} {K : PySem.W.Frag} {x C L f : Addr} {h₀ : Heap} {m : Str → Option Value} {ox : Obj} {od : Option Obj} {b tb : Value}
theorem ne_entry {Q : PySem.Fin → Shared → Prop} (hu : A.units < cLine) (X : K.In s.heap) (I : InstAt s.heap x ox C od) (c : EqC K C f)
    (h : wpAny (model prog w) A (call (.ref f) [.ref x, b]) (fun v s' => ∃ r, v = .bool r ∧ Q (.done (.ret (.bool (!r)))) s') E s) :
    wpAny (model prog w) A (Builtin.«object.__ne__» ⟨[.ref x, b], []⟩) Q E s := by
  unfold Builtin.«object.__ne__»
  refine wpAny_bind (wpAny_of_eq (a := (Value.ref x, [b])) (by first | rfl | kernel_rfl!) ?_)
  refine wpAny_bind (wpAny_cRoomFor hu ?_)
  refine wpAny_bind (m := callSpecialIfBound? (.ref x) (Str.ofString "__eq__") [b]) (ifBound_K X I c.eq c.fn (wpAny_mono h (fun v s' hv => ?_) fun _ _ e => e))
  obtain ⟨r, e, q⟩ := hv
  subst e
  refine wpAny_bind (m := truthy (.bool r)) (wpAny_truthy_bool ?_)
  exact wpAny_pure q
theorem ne_call {Q : Value → Shared → Prop} (hu : A.in1.units < cLine) (X : K.In s.heap) (I : InstAt s.heap x ox C od) (c : EqC K C f)
    (h : wpAny (model prog w) A.in1 (call (.ref f) [.ref x, b]) (fun v s' => ∃ r, v = .bool r ∧ Q (.bool (!r)) s') E s) :
    wpAny (model prog w) A (call (.builtin "object.__ne__") [.ref x, b]) Q E s := by
  have t2 : PySem.W.Looks (model prog w) s.heap (isInstance (.ref x) (.type "object")) true := I.type.andThen (looks_subIn X c.ob)
  refine wpAny_call (codeAny_call_builtin F.cmp_object.ne.plain F.cmpEntry_ne (PySem.W.check_slot F.cmpKind_ne F.cmpSplit_ne t2 (F.cmpArgs_ne _ _) (ne_entry hu X I c (wpAny_mono h (fun v s' hv => ?_) fun _ _ e => e))))
  obtain ⟨r, e, q⟩ := hv
  exact ⟨r, e, q⟩
theorem ne_bound {Q : Option Value → Shared → Prop} (hu : A.in1.units < cLine) (X : K.In s.heap) (I : InstAt s.heap x ox C od) (c : EqC K C f)
    (h : wpAny (model prog w) A.in1 (call (.ref f) [.ref x, b]) (fun v s' => ∃ r, v = .bool r ∧ Q (some (.bool (!r))) s') E s) :
    wpAny (model prog w) A (callSpecialIfBound? (.ref x) "__ne__" [b]) Q E s := by
  simp only [callSpecialIfBound?, bindSpecialIfBound?]
  refine wpAny_holding (wpAny_bind (wpAny_bind (wpAny_bind (I.type.here ((looks_findIn X c.ne).here ?_)))))
  refine wpAny_bind (wpAny_askSetting (wpAny_ite ?_))
  have fin : wpAny (model prog w) A (call (.builtin "object.__ne__") ([.ref x] ++ [b]) >>= fun v => pure (some v)) Q E s :=
    wpAny_bind (ne_call hu X I c (wpAny_mono h (fun v s' ⟨r, e, q⟩ => ⟨r, e, wpAny_pure q⟩) fun _ _ e => e))
  have bd := F.cmp_object.ne.bind (.ref x)
  split
  · refine wpAny_bind ?_
    rw [bd]
    exact wpAny_pure (wpAny_pure (by exact fin))
  · refine wpAny_tryCatch (wpAny_bind ?_)
    rw [bd]
    exact wpAny_pure (wpAny_pure (by exact fin))
theorem ne_K {Q : Value → Shared → Prop} (hu : A.in1.units < cLine) (hu0 : A.units < cLine) (F : Fr h₀ L s.heap m) (X₀ : K.In h₀) (I : InstAt s.heap x ox C od) (hb : PySem.W.Looks (model prog w) s.heap (typeOf b) tb) (hn : PySem.W.notFirst K C tb = true) (c : EqC K C f)
    (h : wpAny (model prog w) A.in1 (call (.ref f) [.ref x, b]) (fun v s' => ∃ r, v = .bool r ∧ Q (.bool (!r)) s') E s) : wpAny (model prog w) A (richCompare .NotEq (.ref x) b) Q E s := by
  have X := X₀.keeps F.keep
  have one : wpAny (model prog w) A (tryCompare (.ref x) (cmpInfo .NotEq).2.1 b) (fun r s' => ∃ v, r = some v ∧ Q v s') E s := by
    unfold tryCompare
    refine wpAny_bind (ne_bound hu X I c (wpAny_mono h (fun v s' ⟨r, e, q⟩ => ⟨r, e, ?_⟩) fun _ _ e => e))
    exact wpAny_pure ⟨_, rfl, q⟩
  have two : ∀ r s', (∃ v, r = some v ∧ Q v s') → ∃ v, r = some v ∧ Q v s' := fun _ _ z => z
  unfold richCompare
  simp only [oneThing_ref]
  refine wpAny_holding (wpAny_bind (wpAny_cRoomFor hu0 ?_))
  refine wpAny_bind (I.type.here (wpAny_bind (hb.here ?_)))
  split
  · rename_i q
    have e : PySem.W.subIn K tb (.ref C) = some false := by
      rcases Bool.or_eq_true_iff.mp hn with e | e
      · rw [beq_iff_eq.mp e] at q; simp at q
      · exact beq_iff_eq.mp e
    refine wpAny_bind ((looks_subIn X e).here ?_)
    simp only [Bool.false_eq_true, if_false]
    refine wpAny_bind (wpAny_mono one (fun r s' ⟨v, ev, hq⟩ => ?_) fun _ _ e => e)
    subst ev
    exact wpAny_pure hq
  · refine wpAny_bind (wpAny_pure ?_)
    simp only [Bool.false_eq_true, if_false]
    refine wpAny_bind (wpAny_mono one (fun r s' ⟨v, ev, hq⟩ => ?_) fun _ _ e => e)
    subst ev
    exact wpAny_pure hq
end
/-! as rules -/
section
variable {X : Cx} {CX : CXT} {k : Nat} {f C : Addr} {fd : FuncData} {ps : List Str} {sp : Sp} {E : XK}
/-- the other operand: an instance of the same class, an int, a tuple -/
inductive Oth (H : Hp) (C : Addr) : V → Prop where
  | ins {a dx : Addr} {fs : List (Str × V)} (h : H a = some (.ins C dx fs)) : Oth H C (.ref a)
  | int (i : Int) : Oth H C (.int i)
  | tup {a : Addr} {xs : List V} (h : H a = some (.tup xs)) : Oth H C (.ref a)
def rEqO (C : Addr) (sp : Sp) (E : XK) (neg : Bool) : R2 := fun x y H Q =>
  ∃ a dx fs, x = .ref a ∧ H a = some (.ins C dx fs) ∧ Oth H C y ∧ sp [.ref a, y] H (fun v H' => ∃ r, v = .bl r ∧ Q (.bl (if neg then !r else r)) H') E
theorem oth_type {pins : List (Addr × Obj)} {σ : L2.St} {H : Hp} {s : Shared} {y : V} {u : Value} (I : Inv X pins σ H s) (ry : RelV y u) (c : EqC X.K C f) (o : Oth H C y) :
    ∃ tb, PySem.W.Looks (model X.prog X.w) s.heap (typeOf u) tb ∧ PySem.W.notFirst X.K C tb = true := by
  cases o with
  | @ins a dx fs h =>
    obtain rfl : u = Value.ref a := ry
    obtain ⟨mA, O, rr, _, _, _⟩ := ins_get I.hok h
    obtain ⟨od, J, hl⟩ := O.look
    exact ⟨_, J.type, by unfold PySem.W.notFirst; simp⟩
  | int i =>
    obtain ⟨t, rfl⟩ := ry
    exact ⟨.type "int", .now, by unfold PySem.W.notFirst; rw [c.ni]; simp⟩
  | @tup a xs h =>
    obtain rfl : u = Value.ref a := ry
    obtain ⟨_, _, _, ob, h1, h2, _⟩ := (show ObjOk X.prog X.w H s.heap a (.tup xs) from I.hok a _ h)
    exact ⟨.type "tuple", h2 ▸ (PySem.W.Looks.ld h1).andThen .now, by unfold PySem.W.notFirst; rw [c.nt]; simp⟩
theorem op_eq_own (c : EqC X.K C f) (F : FnOk X.prog X.w X.K X.mg X.base CX k f fd ps sp) (hr : Room k X.A) (hb : Binds X.K fd ps []) (hx : Passes CX X E) : OpR X (compareOp .Eq) (rEqO C sp E false) := by
  intro pins s σ H x y v u Q I rx ry ⟨a, dx, fs, ex, ha, o, q⟩
  subst ex
  obtain rfl : v = Value.ref a := rx
  obtain ⟨mA, O, rr, _, _, _⟩ := ins_get I.hok ha
  obtain ⟨od, J, hl⟩ := O.look
  obtain ⟨m0, hF⟩ := I.fr
  obtain ⟨tb, lk, nf⟩ := oth_type I ry c o
  show wpAny _ _ (richCompare .Eq (.ref a) u) _ _ _
  refine cmp_K hr.units0 hF I.ok.mod.kin J lk nf c.eq c.fn (thn (run_sub F ⟨hr, rfl⟩ hb hx I (.cons (relR a) (.cons ry .nil)) q) fun r s' ⟨z, H', I', rz, b, ez, q'⟩ => ?_)
  subst ez
  obtain rfl : r = Value.bool b := rz
  exact ⟨_, H', I', relB b, q'⟩
theorem op_ne_own (c : EqC X.K C f) (F : FnOk X.prog X.w X.K X.mg X.base CX k f fd ps sp) (hr : Room (k + 1) X.A) (hb : Binds X.K fd ps []) (hx : Passes CX X E) : OpR X (compareOp .NotEq) (rEqO C sp E true) := by
  intro pins s σ H x y v u Q I rx ry ⟨a, dx, fs, ex, ha, o, q⟩
  subst ex
  obtain rfl : v = Value.ref a := rx
  obtain ⟨mA, O, rr, _, _, _⟩ := ins_get I.hok ha
  obtain ⟨od, J, hl⟩ := O.look
  obtain ⟨m0, hF⟩ := I.fr
  obtain ⟨tb, lk, nf⟩ := oth_type I ry c o
  show wpAny _ _ (richCompare .NotEq (.ref a) u) _ _ _
  refine ne_K (Room.units0 hr.in1) hr.units0 hF I.ok.mod.kin J lk nf c (thn (run_sub F (Sub.in1 ⟨hr, rfl⟩) hb hx I (.cons (relR a) (.cons ry .nil)) q) fun r s' ⟨z, H', I', rz, b, ez, q'⟩ => ?_)
  subst ez
  exact ⟨b, rz, _, H', I', relB (!b), q'⟩
end
end Tw

set_option Elab.async false
set_option linter.all false
set_option maxRecDepth 100000
set_option maxHeartbeats 4000000
namespace Tw
open PySem PySem.Spec PyProof.Rows L2
/-! enumerate(t), t a tuple -/
def enO (s : Shared) : Obj := { cls := .type "enumerate", data := .fields #[.none, .bool false, .ref s.heap.objs.size, rawInt 0, .none, .none] }
theorem enum_newT (t : Addr) (items : Array Value) :
    Meets (Builtin.«enumerate.__new__» ⟨[.type "enumerate", .ref t], []⟩) (fun _ R s => s.heap.IsTuple t items ∧
      R (.ok (.ret (.ref (s.heap.push (itTup t 0)).objs.size))) { s with heap := (s.heap.push (itTup t 0)).push (enO s) }) :=
  .of_wp fun prog w A R s h => by
    obtain ⟨hp, g, d, tk, os⟩ := s
    obtain ⟨h1, h⟩ := h
    have hsub := sub_enumerate
    have q1 : ∀ {A' : Around} {E : Value → Shared → Prop} {Q : Value → Shared → Prop}, Q (.ref hp.objs.size) ⟨hp.push (itTup t 0), g, d, tk, os⟩ → wpAny (model prog w) A' (pyIter (.ref t)) Q E ⟨hp, g, d, tk, os⟩ :=
      fun q => wpAny_pyIter_tuple (s := ⟨hp, g, d, tk, os⟩) h1 q
    wp_walk using q1
    refine wpAny_stack_any fun st => wpAny_pure ?_
    split
    · rename_i c _ _ _ _ _
      cases (c == Value.type "enumerate")
      · wp_walk using q1
        exact ⟨_, rfl, h⟩
      · wp_walk using q1
        exact ⟨_, rfl, h⟩
    · wp_walk using q1
      exact ⟨_, rfl, h⟩
section
variable {prog : Program} {w : World} {A : Around} {E : Value → Shared → Prop} {s : Shared}
theorem call_enumT {t : Addr} {items : Array Value} {Q : Value → Shared → Prop} (hT : s.heap.IsTuple t items)
    (h : ∀ h', IsEnum h' (s.heap.objs.size + 1) s.heap.objs.size 0 .none → h'.IsTupleIter s.heap.objs.size t 0 → h'.objs.size = s.heap.objs.size + 2 →
      (∀ b o, s.heap.get? b = some o → h'.get? b = some o) → Q (.ref (s.heap.objs.size + 1)) { s with heap := h' }) :
    wpAny (model prog w) A (call (.type "enumerate") [.ref t]) Q E s := by
  refine callType_new F.called_enumerate (by decide) (F.typeCall_enumerate_1 _) (F.newCall_enumerate_1 _) (fun obj => F.args_object_init_2 obj _) F.entry_enumerate_new (enum_newT t items) ⟨hT, ?_⟩
  have hz : (s.heap.push (itTup t 0)).objs.size = s.heap.objs.size + 1 := Heap.size_push ..
  show _ ∧ _
  rw [hz]
  have he : IsEnum ((s.heap.push (itTup t 0)).push (enO s)) (s.heap.objs.size + 1) s.heap.objs.size 0 .none := by
    have q := Heap.get?_push_size (s.heap.push (itTup t 0)) (o := enO s) rfl
    rw [hz] at q
    exact q
  have hi : ((s.heap.push (itTup t 0)).push (enO s)).IsTupleIter s.heap.objs.size t 0 := ⟨_, Heap.get?_push_of_some _ (Heap.get?_push_size _ rfl), rfl, rfl⟩
  exact ⟨⟨_, he, rfl⟩, h _ he hi (by rw [Heap.size_push, hz]) fun b o x => Heap.get?_push_of_some _ (Heap.get?_push_of_some _ x)⟩
end
def IteT (K : PySem.W.Frag) (a : Addr) : It :=
  ⟨fun i H => ∃ (xs : List V) (x : V), SqT K H a xs ∧ xs[i]? = some x, fun i H v H' => ∃ T x, v = .ref T ∧ H T = Option.none ∧ H' = upd H T (.tup [.int (i : Nat), x]) ∧ ∀ xs, SqT K H a xs → xs[i]? = some x, fun i H => ∃ xs : List V, SqT K H a xs ∧ xs.length = i⟩
theorem turn_enumT {P : Program} {w : World} {K : PySem.W.Frag} {elts : List Expr} {kk : Nat} {tpos : Pos} (a e it : Addr) :
    Turn P w K (.Tuple elts kk tpos) (IteT K a) [e, it] e (fun i h => (∃ old, IsEnum h e it ((i : Nat) : Int) old) ∧ h.IsTupleIter it a i ∧ e ≠ it) where
  mem := by simp
  obj := fun i h st b hb => by
    obtain ⟨⟨old, he⟩, ⟨o, ho, hc, hd⟩, _⟩ := st
    rcases (show b = e ∨ b = it by simpa using hb) with rfl | rfl
    · exact ⟨_, he, fun v q => nomatch q⟩
    · exact ⟨o, ho, fun v q => by rw [hd] at q; cases q⟩
  keep := fun i h h' st k => let ⟨⟨old, he⟩, hi, hne⟩ := st; ⟨⟨old, k e (by simp) _ he⟩, hi.at fun o q => k it (by simp) o q, hne⟩
  item := by
    intro X hP hw hK hc i pins s σ H E I hf st hg
    subst hP hw hK
    obtain ⟨⟨old, he⟩, hit, hne⟩ := st
    obtain ⟨xs, x, hq, hx⟩ := hg
    obtain ⟨its, rv, p, hz⟩ := I.tuple hq
    have hil : i < xs.length := (List.getElem?_eq_some_iff.mp hx).1
    have hlen := rv.length
    have hel : e < s.heap.objs.size := Heap.lt_size he
    have hitl : it < s.heap.objs.size := by obtain ⟨_, q, _⟩ := hit; exact Heap.lt_size q
    have hae : e ≠ a := fun z => by
      obtain ⟨oo, h1, h2, _⟩ := p
      rw [← z, he] at h1
      cases h1
      injection h2 with q
      exact absurd q (by decide)
    have hia : it ≠ a := fun z => by
      obtain ⟨oo, h1, h2, _⟩ := p
      obtain ⟨o2, h3, h4, _⟩ := hit
      rw [← z, h3] at h1
      cases h1
      rw [h4] at h2
      injection h2 with q
      exact absurd q (by decide)
    have D := Draws.tuple (prog := X.prog) (w := X.w) (A := X.A.in1) (I.ok.hd hc) it a hia.symm its.toArray
    refine wpAny_pyNext_enum_itemD D he ⟨hit, p⟩ (by rw [List.size_toArray]; omega) hne (by simp [hne, hae]) fun u h' tk hu ho hst hT hsz hk => ?_
    obtain ⟨u2, hu2, ru⟩ := rv.get hx
    obtain rfl : u = u2 := by
      rw [List.getElem?_toArray] at hu
      exact Option.some.inj (hu.symm.trans hu2)
    refine ⟨_, rfl, wpAny_letOwnedTupleGo_enum (s := { s with heap := h', toks := tk + 1 }) ho fun h'' he' sb => ?_⟩
    have hT2 : h''.get? s.heap.objs.size = some { cls := .type "tuple", data := .seq #[.int i tk, u] } := (sb.2 _ (Nat.ne_of_gt hel)).trans hT
    have new : ObjOk X.prog X.w (upd H s.heap.objs.size (.tup [.int (i : Nat), x])) h'' s.heap.objs.size (.tup [.int (i : Nat), x]) :=
      ⟨by show 2 ≤ sizeLine; decide, [.int i tk, u], .cons ⟨_, rfl⟩ (.cons ru .nil), ⟨_, hT2, rfl, _, rfl⟩⟩
    have I1 : Inv X pins σ (upd H s.heap.objs.size (.tup [.int (i : Nat), x])) { s with heap := h'', toks := tk + 1 } :=
      I.turnedNew (ch := [e, it]) (fun b ob hb q => (sb.2 b (fun z => hb (by simp [z]))).trans (hk b ob (fun z => hb (by simp [z])) (fun z => hb (by simp [z])) q)) hf (Nat.le_refl _) new
    refine ⟨.ref s.heap.objs.size, _, I1, rfl, ⟨_, x, rfl, I.hok.fresh (Nat.le_refl _), rfl, fun ys hy => by rw [I.tuple_inj hy hq]; exact hx⟩, ⟨⟨u, ?_⟩, hst.1.at fun o q => (sb.2 it (Ne.symm hne)).trans q, hne⟩, fun b hb => ?_⟩
    · rw [show ((i + 1 : Nat) : Int) = (i : Int) + 1 by omega]
      exact he'
    · have hb' : b < s.heap.objs.size := by
        rcases (show b = e ∨ b = it by simpa using hb) with rfl | rfl
        · exact hel
        · exact hitl
      rw [upd_ne (Nat.ne_of_lt hb')]
      exact (hf b hb).1
  done := by
    intro X hP hw hK hc i pins s σ H E I hf st hg
    subst hP hw hK
    obtain ⟨⟨old, he⟩, hit, hne⟩ := st
    obtain ⟨xs, hq, hx⟩ := hg
    obtain ⟨its, rv, p, hz⟩ := I.tuple hq
    obtain ⟨f0, f1, f2, f3, f4, f5⟩ := hf it (by simp)
    have hlen := rv.length
    have hae : e ≠ a := fun z => by
      obtain ⟨oo, h1, h2, _⟩ := p
      rw [← z, he] at h1
      cases h1
      injection h2 with q
      exact absurd q (by decide)
    have hia : it ≠ a := fun z => by
      obtain ⟨oo, h1, h2, _⟩ := p
      obtain ⟨o2, h3, h4, _⟩ := hit
      rw [← z, h3] at h1
      cases h1
      rw [h4] at h2
      injection h2 with q
      exact absurd q (by decide)
    have D := Draws.tuple (prog := X.prog) (w := X.w) (A := X.A.in1) (I.ok.hd hc) it a hia.symm its.toArray
    have en : its.toArray.size = i := by rw [List.size_toArray]; omega
    refine wpAny_pyNext_enum_endD D he (by rw [en]; exact ⟨hit, p⟩) fun h' eb => ⟨rfl, I.turned (t' := s.toks) (fun b o hb q => eb b o hb q) f0 f1 f3 f4 f5⟩
  self := fun A i s Q E st h => let ⟨⟨_, he⟩, _⟩ := st; wpAny_pyIter_enum he h
theorem walk_enumT {K : PySem.W.Frag} {a : Addr} {xs : List V} : Walk (IteT K a) xs.length (fun H => SqT K H a xs) (YPair (fun i => some (.int (i : Nat))) (fun i => xs[i]?)) := by
  refine ⟨fun i _ hi q => ⟨xs, xs[i], q, by simp [hi]⟩, fun _ q => ⟨xs, q, rfl⟩, fun i H v H' _ q y => ?_⟩
  obtain ⟨T, x, h1, h2, h3, h4⟩ := y
  exact ⟨T, .int (i : Nat), x, h1, h2, h3, rfl, h4 xs q⟩
/-- enumerate of a list or of a tuple -/
def iEnS (K : PySem.W.Frag) (ta : TA) : TI := fun σ H R => ta σ H fun vs H1 => ∃ a xs, vs = [.ref a] ∧ ((SqL K H1 a xs ∧ R (Ite K a) H1) ∨ (SqT K H1 a xs ∧ R (IteT K a) H1))
theorem pi_enS {X : Cx} {e : Expr} {ta : TA} {p pos tpos : Pos} {elts : List Expr} {kk : Nat} (hg : Gl X "enumerate") (hm : X.mg "enumerate" = Option.none) (ha : PA X [e] ta) (hs : starEach [e] X.env = [(false, eval e X.env)] := by rfl) :
    PI X (.Tuple elts kk tpos) (.Call (.Name "enumerate" p) [e] [] pos) (iEnS X.K ta) := by
  refine ⟨fun pins s σ H R I h => ?_⟩
  refine Call_ (ld_blt I hg hm boot_enumerate (PyProof.Rows.callWith_type1 (thn (ha.run pos pins s σ H _ I h) fun us s1 ⟨vs, H1, I1, r1, a, xs, ex, q1⟩ => ?_) hs rfl))
  subst ex
  obtain ⟨u, rfl, ru⟩ := r1.one
  obtain rfl : u = Value.ref a := ru
  have fr : ∀ b ∈ [s1.heap.objs.size + 1, s1.heap.objs.size], FpOk X pins H1 b := fun b hb => by
    have hle : s1.heap.objs.size ≤ b := by
      rcases (show b = s1.heap.objs.size + 1 ∨ b = s1.heap.objs.size by simpa using hb) with z | z <;> omega
    exact I1.fpOk hle (I1.hok.fresh hle)
  rcases q1 with ⟨hq, q⟩ | ⟨hq, q⟩
  · obtain ⟨its, rv, p', hz⟩ := I1.list hq
    exact call_enumerate_list p'.isList fun h' he hit hsz hk => wpAny_pyIter_enum he ⟨_, _, _, _, H1, rfl, I1.kept (t' := s1.toks) hk, turn_enum a (s1.heap.objs.size + 1) s1.heap.objs.size, ⟨⟨.none, he⟩, hit, Nat.succ_ne_self _⟩, fr, q⟩
  · obtain ⟨its, rv, p', hz⟩ := I1.tuple hq
    exact call_enumT p' fun h' he hit hsz hk => wpAny_pyIter_enum he ⟨_, _, _, _, H1, rfl, I1.kept (t' := s1.toks) hk, turn_enumT a (s1.heap.objs.size + 1) s1.heap.objs.size, ⟨⟨.none, he⟩, hit, Nat.succ_ne_self _⟩, fr, q⟩
end Tw

set_option Elab.async false
set_option linter.all false
set_option maxRecDepth 100000
set_option maxHeartbeats 2000000
/-! own rules: min(xs, key=lambda x: ys[x]), ys a name of the def -/
namespace Cl
open PySem PySem.Spec PyProof.Rows L2 LamX
section
variable {prog : Program} {w : World} {A : Around} {E : Value → Shared → Prop} {s : Shared}
/-- what the lambda's scope must say -/
structure LSc (scope : Scope) (x y : Str) : Prop where
  kind : scope.kind = .function
  co : scope.isCoroutine = false
  gen : scope.isGenerator = false
  nocell : ∀ z ∈ scope.names, z.2 ≠ .cell
  px : scope.names.lookup x = some .local
  fy : scope.names.lookup y = some .free
/-- lambda x: y[x], called with an int -/
theorem lam_ix {f l c' ck : Addr} {q x y : Str} {params : Arguments} {p1 p2 p3 : Pos} {scope : Scope} {cl : List (Str × Addr)} {pm ctv u : Value} {vs : List Value} {i : Int} {t : Tok} {Q : Value → Shared → Prop}
    (S : LSc scope x y) (hd : A.depth < recursionLimit) (hf : s.heap.get? f = some (PySem.W.kla_obj "<lambda>" q params (.Subscript (.Name y p1) (.Name x p2) p3) scope cl pm c' ctv))
    (hbind : ∀ v : Value, bindArgs (PySem.W.kla_fn "<lambda>" q params (.Subscript (.Name y p1) (.Name x p2) p3) scope cl pm (.ref c') ctv) ⟨[v], []⟩ = pure [(x, v)])
    (hcode : ∃ (oc : Obj) (us : Array Value) (tk : Tok), s.heap.get? c' = some oc ∧ oc.data = .fields us ∧ us[1]? = some (.str q tk)) (hlim : s.heap.NoLimit)
    (hck : cl.lookup y = some ck) (hcell : s.heap.IsCell ck (some (.ref l))) (hl : s.heap.IsList l vs.toArray) (h0 : 0 ≤ i) (h1 : i < 2 ^ 63) (hi : vs[i.toNat]? = some u)
    (hdx : (x == ("__debug__" : Str)) = false) (hdy : (y == ("__debug__" : Str)) = false) (hcy : (y == ("__classdict__" : Str)) = false)
    (h : ∀ h' tk, s.toks ≤ tk → (∀ b o, s.heap.get? b = some o → h'.get? b = some o) → Q u { s with heap := h', toks := tk }) : wpAny (model prog w) A (call (.ref f) [.int i t]) Q E s := by
  obtain ⟨oc, us, tq, hoc, hdc, hvc⟩ := hcode
  refine wpAny_call (PySem.W.kla_callFunE hd hf rfl S.co S.gen rfl ⟨c', oc, us, tq, rfl, hoc, hdc, hvc⟩ ?_)
  rw [hbind]
  refine wpAny_pure (wpAny_newFunctionEnv S.nocell (fun z hz => by rw [List.mem_singleton.mp hz]; exact S.px) (fun h₁ hns hsb => ⟨hlim.fresh _ hsb, ?_⟩) S.kind)
  have kp : ∀ b o, s.heap.get? b = some o → h₁.get? b = some o := fun b o e => hsb.extBut b o (Nat.ne_of_lt (Heap.lt_size e)) (Heap.get?_push_of_some _ e)
  refine PySem.W.kla_codeExpr ?_
  refine wpAny_Subscript_Name list_getitem_lookup ?_
  refine wpAny_Name (wpAny_loadName_free S.kind S.fy hck (hcell.keeps kp) ?_ hcy) hdy
  refine wpAny_Name (wpAny_loadName_local S.kind S.px hns (v := .int i t) ?_ ?_) hdx
  · simp [List.lookup]
  · have hl' : h₁.IsList l vs.toArray := hl.at fun o e => kp _ _ e
    refine ⟨hl'.typeIs, wpAny_getItem_list hl' h0 h1 (by simpa using hi) ?_⟩
    exact h h₁ _ (by show s.toks ≤ s.toks + _; omega) kp
/-- what a lambda x: y[x] is, and what it reads -/
structure LamAt (h : Heap) (f : Addr) (x y : Str) (q : Str) (params : Arguments) (p1 p2 p3 : Pos) (scope : Scope) (cl : List (Str × Addr)) (pm ctv : Value) (c' ck l : Addr) (us : List Value) : Prop where
  fn : h.get? f = some (PySem.W.kla_obj "<lambda>" q params (.Subscript (.Name y p1) (.Name x p2) p3) scope cl pm c' ctv)
  code : ∃ (oc : Obj) (us : Array Value) (tk : Tok), h.get? c' = some oc ∧ oc.data = .fields us ∧ us[1]? = some (.str q tk)
  lim : h.NoLimit
  hck : cl.lookup y = some ck
  cell : h.IsCell ck (some (.ref l))
  lst : h.IsList l us.toArray
theorem LamAt.keeps {h h' : Heap} {f : Addr} {x y : Str} {q : Str} {params : Arguments} {p1 p2 p3 : Pos} {scope : Scope} {cl : List (Str × Addr)} {pm ctv : Value} {c' ck l : Addr} {us : List Value}
    (L : LamAt h f x y q params p1 p2 p3 scope cl pm ctv c' ck l us) (k : ∀ b o, h.get? b = some o → h'.get? b = some o) : LamAt h' f x y q params p1 p2 p3 scope cl pm ctv c' ck l us :=
  ⟨k _ _ L.fn, let ⟨oc, us, tk, a, b, c⟩ := L.code; ⟨oc, us, tk, k _ _ a, b, c⟩, L.lim.keeps k, L.hck, L.cell.keeps k, L.lst.at fun o e => k _ _ e⟩
theorem min_lam {f a l c' ck : Addr} {q x y : Str} {params : Arguments} {p1 p2 p3 : Pos} {scope : Scope} {cl : List (Str × Addr)} {pm ctv : Value} {cs us : List Value} {ns : Nat → Int} {kf : Nat → Int} {Q : Value → Shared → Prop}
    (hh : A.handled = none) (S : LSc scope x y) (hd : A.depth < recursionLimit) (L : LamAt s.heap f x y q params p1 p2 p3 scope cl pm ctv c' ck l us)
    (hbind : ∀ v : Value, bindArgs (PySem.W.kla_fn "<lambda>" q params (.Subscript (.Name y p1) (.Name x p2) p3) scope cl pm (.ref c') ctv) ⟨[v], []⟩ = pure [(x, v)])
    (hdx : (x == ("__debug__" : Str)) = false) (hdy : (y == ("__debug__" : Str)) = false) (hcy : (y == ("__classdict__" : Str)) = false)
    (ht : s.heap.IsTuple a cs.toArray) (hc : ∀ i, i < cs.length → ∃ t, cs[i]? = some (.int (ns i) t)) (hne : 0 < cs.length)
    (hk : ∀ i, i < cs.length → 0 ≤ ns i ∧ ns i < 2 ^ 63 ∧ ∃ t, us[(ns i).toNat]? = some (.int (kf i) t))
    (h : ∀ v h' tk, cs[argBest (fun i j => decide (kf i < kf j)) (cs.length - 1)]? = some v → (∀ b o, s.heap.get? b = some o → h'.get? b = some o) → Q v { s with heap := h', toks := tk }) :
    wpAny (model prog w) A (call (.builtin "min") [.ref a] [(Str.ofString "key", .ref f)]) Q E s := by
  have hd1 : A.in1.depth < recursionLimit := hd
  refine call_min_walkK (PySem.W.iter_tupleW (A := A.in1) hh ht fun s₂ e2 W st hfp hfr kp2 => ?_)
  have sz2 : s.heap.objs.size < s₂.heap.objs.size := hfp _ List.mem_cons_self
  have old : ∀ {s' : Shared}, Moved [s₂.heap.objs.size, s.heap.objs.size] (fun a b => b = a) s₂ s' → ∀ b o, s.heap.get? b = some o → s'.heap.get? b = some o := fun {s'} m b o e => by
    have lt := Heap.lt_size e
    refine m.heap b o (fun hm => ?_) (kp2 b o e)
    rcases List.mem_cons.mp hm with z | hm
    · rw [z] at lt
      exact Nat.lt_irrefl _ (Nat.lt_trans lt sz2)
    · rw [List.mem_singleton.mp hm] at lt
      exact Nat.lt_irrefl _ lt
  have szc : cs.toArray.size = cs.length := by simp
  refine ⟨s.heap.objs.size, [s.heap.objs.size, a], [s.heap.objs.size], (fun a b => b = a), cs.toArray.size, _, _, fun s' => Moved [s₂.heap.objs.size, s.heap.objs.size] (fun a b => b = a) s₂ s', fun i k _ => ∃ t, k = .int (kf i) t, fun i j => decide (kf i < kf j), rfl, W, st, hfp, by rw [szc]; exact hne, ⟨?_, ?_, ?_, ?_⟩, Moved.refl fun _ => rfl, ?_⟩
  · exact fun s1 s' J m => J.trans (fun _ _ _ h1 h2 => h2.trans h1) m
  · exact fun i k s1 s' v _ => v
  · intro i v s1 o Q' E' hi hP J stI hS cont
    rw [szc] at hi
    obtain ⟨t, ec⟩ := hc i hi
    have ev : v = .int (ns i) t := by
      have hP' : cs[i]? = some v := by simpa using hP
      rw [ec] at hP'
      exact (Option.some.inj hP').symm
    subst ev
    obtain ⟨h0, h1, tk, eu⟩ := hk i hi
    have L1 := L.keeps (old J)
    refine lam_ix S hd1 L1.fn hbind L1.code L1.lim L1.hck L1.cell L1.lst h0 h1 eu hdx hdy hcy fun h' tk' hle kp => ?_
    exact cont _ _ (J.then_heap hle fun b o _ e => kp b o e) (W.frame _ s1 h' tk' stI hle fun b _ o e => kp b o e) (kp _ _ hS) ⟨_, rfl⟩ fun j k' z => z
  · intro i j ki kj s1 Q' E' J vi vj q
    exact CmpOf.ints_lt (prog := prog) (w := w) (A := A.in1) (P := fun i v => ∃ t, v = .int (kf i) t) kf (fun i v h => h) i j ki kj s1 Q' E' vi vj q
  · intro v s' hP J
    rw [szc] at hP
    have hP' : cs[argBest (fun i j => decide (kf i < kf j)) (cs.length - 1)]? = some v := by simpa using hP
    have e : s' = { s with heap := s'.heap, toks := s'.toks } := by
      obtain ⟨hp, g, d, tk, os⟩ := s'
      subst e2
      have h1 : g = s.gens := J.gens
      have h2 : d = s.drawn := J.drawn
      have h3 : os = s.os := J.os
      subst h1 h2 h3
      rfl
    rw [e]
    exact h v s'.heap s'.toks hP' (old J)
end
/-- the first of the least -/
def FirstLeast (kf : Nat → Int) (n j : Nat) : Prop := j < n ∧ (∀ i, i < n → kf j ≤ kf i) ∧ ∀ i, i < j → kf j < kf i
theorem best_is (kf : Nat → Int) : ∀ n, FirstLeast kf (n + 1) (argBest (fun i j => decide (kf i < kf j)) n)
  | 0 => ⟨Nat.zero_lt_one, fun i h => by rw [Nat.lt_one_iff.mp h]; exact Int.le_refl _, fun i h => nomatch h⟩
  | n + 1 => by
    obtain ⟨a, b, c⟩ := best_is kf n
    show FirstLeast kf (n + 2) (if decide (kf (n + 1) < kf (argBest (fun i j => decide (kf i < kf j)) n)) = true then n + 1 else argBest (fun i j => decide (kf i < kf j)) n)
    by_cases h : kf (n + 1) < kf (argBest (fun i j => decide (kf i < kf j)) n)
    · rw [if_pos (decide_eq_true h)]
      refine ⟨by omega, fun i hi => ?_, fun i hi => ?_⟩
      · by_cases e : i = n + 1
        · rw [e]
          exact Int.le_refl _
        · have := b i (by omega)
          omega
      · have := b i (by omega)
        omega
    · rw [if_neg (fun z => h (of_decide_eq_true z))]
      refine ⟨by omega, fun i hi => ?_, c⟩
      by_cases e : i = n + 1
      · rw [e]
        omega
      · exact b i (by omega)
theorem first_one {kf : Nat → Int} {n i j : Nat} (a : FirstLeast kf n i) (b : FirstLeast kf n j) : i = j := by
  rcases Nat.lt_trichotomy i j with h | h | h
  · have h1 := b.2.2 i h
    have h2 := a.2.1 j b.1
    omega
  · exact h
  · have h1 := a.2.2 j h
    have h2 := b.2.1 i a.1
    omega
/-- the item of ns whose key in ks is the least, the first such one -/
def LeastAt (ks ns : List Int) (m : Int) : Prop := ∃ j, FirstLeast (fun i => ks.getD (ns.getD i 0).toNat 0) ns.length j ∧ m = ns.getD j 0
theorem _root_.LamX.ExtN.rd {H H' : Hp} (e : ExtN H H') {a : Addr} {u : HO} (n : ∀ ps, u ≠ .tbl ps) (h : Rd H a u) : Rd H' a u := by
  rcases h with h | ⟨o, h⟩
  · exact .inl (e _ _ h n)
  · exact .inr ⟨o, e _ _ h fun ps z => nomatch z⟩
theorem _root_.LamX.ExtN.sqL {K : PySem.W.Frag} {H H' : Hp} (e : ExtN H H') {a : Addr} {xs : List V} (h : SqL K H a xs) : SqL K H' a xs := h.elim (fun h => .inl (e.rd (fun ps z => nomatch z) h)) .inr
theorem _root_.LamX.ExtN.sqT {K : PySem.W.Frag} {H H' : Hp} (e : ExtN H H') {a : Addr} {xs : List V} (h : SqT K H a xs) : SqT K H' a xs := h.elim (fun h => .inl (e.rd (fun ps z => nomatch z) h)) .inr
section
variable {X : Cx}
def tMinLam (K : PySem.W.Frag) (T : List (Addr × Str)) (j : Nat) (te : TE) : TE := fun σ H Q => te σ H fun v H1 => ∃ (a l : Addr) (ns ks : List Int), v = .ref a ∧ SqT K H1 a (ns.map V.int) ∧ σ[j]? = some (some (.ref l)) ∧ SqL K H1 l (ks.map V.int) ∧ 0 < ns.length ∧ (∀ n ∈ ns, 0 ≤ n ∧ n < ks.length) ∧
  Tabs T H1 ∧ ∀ (m : Int) (H2 : Hp), ExtN H1 H2 → Tabs T H2 → LeastAt ks ns m → Q (.int m) H2
/-- min(e, key=lambda x: y[x]), y a name of the def that it shares with the lambda -/
theorem pe_minlam {T : List (Addr × Str)} {c P : Addr} {p p1 p2 p3 lpos kpos pos : Pos} {e : Expr} {te : TE} {x y : Str} {j : Nat} {params : Arguments} {scope : Scope}
    (hg : Gl X "min") (hm : X.mg "min" = none) (he : PE X e te) (hd : X.A.depth < recursionLimit) (hh : X.A.handled = none) (TB : TabB X.base X.mg c P) (hcode : X.env.code = .ref c) (hmT : (P, X.env.qual ++ "<lambda>") ∈ T)
    (hu : ∀ q ∈ T, q.1 = P → q.2 = X.env.qual ++ "<lambda>") (S : LSc scope x y) (hfy : X.env.scope.names.lookup y = some .cell) (hfr : ∀ z ∈ scope.names, z.2 = .free → z.1 = y) (hN : X.N[j]? = some y) (hdef : defaultsOf params X.env = ([], []))
    (hbind : ∀ (q : Str) (cl : List (Str × Addr)) (pm cv ctv v : Value), bindArgs (PySem.W.kla_fn "<lambda>" q params (.Subscript (.Name y p1) (.Name x p2) p3) scope cl pm cv ctv) ⟨[v], []⟩ = pure [(x, v)])
    (hs : starEach [e] X.env = (false, eval e X.env) :: starEach [] X.env := by rfl)
    (hdx : (x == ("__debug__" : Str)) = false := by decide) (hdy : (y == ("__debug__" : Str)) = false := by decide) (hcy : (y == ("__classdict__" : Str)) = false := by decide) :
    PE X (.Call (.Name "min" p) [e] [⟨some "key", .Lambda params (.Subscript (.Name y p1) (.Name x p2) p3) scope lpos, kpos⟩] pos) (tMinLam X.K T j te) := by
  refine ⟨fun pins s σ H Q I h => ?_⟩
  have hfree : ∀ z ∈ scope.names, z.2 = .free → ∃ c, X.env.cells.lookup z.1 = some c := fun z hz e => I.ok.has _ (.inl (by rw [hfr z hz e]; exact hfy))
  refine wpAny_Call_Name_kw (ld_blt I hg hm (u := .builtin "min") (by decide +kernel) ?_)
  refine PyProof.Rows.callWith_kw ?_ (by rw [hs]; rfl) (by rw [hs]; rfl) (by rfl) (by rfl)
  rw [hs]
  show wpAny _ _ (spliced ((false, eval e X.env) :: backTo pos (starEach [] X.env))) _ _ s
  refine Calls.spliced_cons (thn (he.run pins s σ H _ I h) fun u s1 ⟨v, H1, I1, r1, a, l, ns, ks, ev, ht, hσ, hl, hne, hin, hT, q⟩ => Calls.spliced_nil ?_)
  subst ev
  obtain rfl : u = Value.ref a := r1
  show wpAny _ _ (evalAll ((do let v ← eval (.Lambda params (.Subscript (.Name y p1) (.Name x p2) p3) scope lpos) X.env; standAt pos; pure v) :: [])) _ _ s1
  refine wpAny_evalAll_cons (wpAny_bind (lam_make2 I1 TB hcode hmT hu hT hdef hfree fun f c' pm ctv H2 s2 I2 eN T2 hf hfn hff hco => wpAny_bind (wpAny_standAt (wpAny_pure (wpAny_evalAll_nil ?_)))))
  show wpAny _ _ (call (.builtin "min") [.ref a] [(Str.ofString "key", .ref f)]) _ _ s2
  obtain ⟨cs, rc, tc, _⟩ := I2.tuple (eN.sqT ht)
  obtain ⟨us, ru, pl, hz2⟩ := I2.list (eN.sqL hl)
  obtain ⟨m, _, look⟩ := I2.loc
  obtain ⟨u0, r0, lk⟩ := look j y _ hN hσ (.inr (.inl hfy))
  obtain rfl : u0 = Value.ref l := r0
  have cellAt : ∃ ck, X.env.cells.lookup y = some ck ∧ s2.heap.IsCell ck (some (.ref l)) := by
    rcases lk with ⟨k, _⟩ | ⟨_, ck, e1, e2⟩
    · rw [show X.env.kindOf y = some .cell from hfy] at k
      cases k
    · exact ⟨ck, e1, e2⟩
  obtain ⟨ck, eck, hcell⟩ := cellAt
  obtain ⟨⟨oc, vs, tk, o1, o2, o3⟩, _, _⟩ := I2.hok c' _ hco
  have lc : cs.length = ns.length := by rw [← rc.length, List.length_map]
  have lu : us.length = ks.length := by rw [← ru.length, List.length_map]
  have nsAt : ∀ i, i < ns.length → ∃ t, cs[i]? = some (.int (ns.getD i 0) t) := fun i hi => by
    obtain ⟨z, ez, rz⟩ := rc.get (i := i) (x := V.int (ns.getD i 0)) (by rw [List.getElem?_map, List.getD_eq_getElem?_getD, List.getElem?_eq_getElem hi]; rfl)
    obtain ⟨t, rfl⟩ := rz
    exact ⟨t, ez⟩
  refine min_lam (ns := fun i => ns.getD i 0) (kf := fun i => ks.getD (ns.getD i 0).toNat 0) hh S hd ⟨hf, ⟨oc, vs, tk, o1, o2, o3⟩, I2.nolimit, NdefX.clo_has hfree (PySem.mem_of_lookup S.fy) eck, hcell, pl.isList⟩ (fun v => hbind _ _ _ _ _ v) hdx hdy hcy tc (fun i hi => nsAt i (by omega)) (by omega)
    (fun i hi => ?_) fun v h' tk2 hv kp => ?_
  · have hi' : i < ns.length := by omega
    have hmem : ns.getD i 0 ∈ ns := by rw [List.getD_eq_getElem?_getD, List.getElem?_eq_getElem hi']; exact List.getElem_mem hi'
    obtain ⟨b0, b1⟩ := hin _ hmem
    have hs63 := line63
    rw [List.length_map] at hz2
    have hk' : (ns.getD i 0).toNat < ks.length := by omega
    obtain ⟨z, ez, rz⟩ := ru.get (i := (ns.getD i 0).toNat) (x := V.int (ks.getD (ns.getD i 0).toNat 0)) (by rw [List.getElem?_map, List.getD_eq_getElem?_getD (l := ks), List.getElem?_eq_getElem hk']; rfl)
    obtain ⟨t, rfl⟩ := rz
    exact ⟨b0, by omega, t, ez⟩
  · obtain ⟨n, en⟩ : ∃ n, ns.length = n + 1 := ⟨ns.length - 1, by omega⟩
    have fl := best_is (fun i => ks.getD (ns.getD i 0).toNat 0) n
    rw [← en] at fl
    rw [lc, show ns.length - 1 = n by omega] at hv
    obtain ⟨t, et⟩ := nsAt _ fl.1
    rw [et] at hv
    cases hv
    exact ⟨.int _, H2, I2.kept kp, ⟨t, rfl⟩, q _ H2 eN T2 ⟨_, fl, rfl⟩⟩
end
end Cl

set_option Elab.async false
set_option linter.all false
set_option maxRecDepth 100000
set_option maxHeartbeats 2000000
/-! own rule: list(o), o an instance with an __iter__ over its tuple and a __len__ -/
namespace Tw
open PySem PySem.Spec PyProof.Rows L2
def rListO (K : PySem.W.Frag) (C : Addr) (fld : Str) (sp : Sp) (E : XK) : List V → Hp → VK → Prop := fun xs H Q => ∃ (a dx : Addr) (fs : List (Str × V)) (t : Addr) (zs : List V), xs = [.ref a] ∧ H a = some (.ins C dx fs) ∧ fs.lookup fld = some (.ref t) ∧ SqT K H t zs ∧ zs.length ≤ 900 ∧
  sp [.ref a] H (fun v H' => ∃ n : Nat, v = .int n ∧ n < 1000 ∧ H' = H) E ∧ ∀ q, H q = none → Q (.ref q) (upd H q (.lst zs))
theorem ty_ne {a b : String} (h : Value.type a = Value.type b) (n : decide (a = b) = false) : False := by
  injection h with h
  exact of_decide_eq_false n h
theorem if_yes {α : Type} {M : Model} {A : Around} {E : Value → Shared → Prop} {s : Shared} {c : Bool} {a b : Sem α} {Q : α → Shared → Prop} (hc : c = true) (h : wpAny M A a Q E s) : wpAny M A (if c = true then a else b) Q E s := by
  rw [hc, if_pos rfl]
  exact h
section
variable {X : Cx} {k : Nat} {f : Addr} {fd : FuncData} {ps : List Str} {sp : Sp} {A1 : Around} {pins : List (Addr × Obj)} {σ : L2.St} {H : Hp} {s : Shared} {Q : VK}
/-- a def that raises nothing, called within a built-in -/
theorem run_sub0 {us : List Value} {vs : List V} {R : Value → Shared → Prop} (F : FnOk X.prog X.w X.K X.mg X.base CX0 k f fd ps sp) (sb : Sub X k A1) (hb : L2.Binds X.K fd ps []) (I : Inv X pins σ H s) (r : Vals vs us) (h : sp vs H Q E0) :
    wpAny (model X.prog X.w) A1 (call (.ref f) us) (EP X pins σ Q) R s := by
  have hl : us.length = ps.length := by rw [← r.length]; exact F.len _ _ _ _ h
  have hb1 : BindsTo s fd ⟨us, []⟩ (ps.zip us) := by
    have z := hb s us I.kIn (by rw [List.append_nil]; exact hl)
    rw [List.append_nil] at z
    exact z
  refine wpAny_call (codeAny_mono (F.run A1 X.stack s H ⟨us, []⟩ us vs Q E0 sb.room (Sub.env0 sb I) hb1 r h) fun z s' hq => ?_)
  match z, hq with
  | .error e, hq => exact False.elim hq
  | .ok (.ret u), hq => exact I.after hq
  | .ok .next, hq => exact False.elim hq
  | .ok .brk, hq => exact False.elim hq
  | .ok .cont, hq => exact False.elim hq
end
section
variable {X : Cx} {kI k : Nat} {fi fl C : Addr} {fdI fdL : FuncData} {psL : List Str} {spL : Sp} {fld : Str}
theorem call_listO (hdI : Dn X.K C "__iter__" fi) (FI : FnIt X.prog X.w X.K X.mg X.base k fi fdI ["self"] (spIter X.K C fld)) (bI : L2.Binds X.K fdI ["self"] [])
    (hdL : Dn X.K C "__len__" fl) (FL : FnOk X.prog X.w X.K X.mg X.base CX0 k fl fdL psL spL) (bL : L2.Binds X.K fdL psL []) (hr : Room (k + 3) X.A) : CallR X (.type "list") (rListO X.K C fld spL E0) := by
  intro pins s σ H xs us Q I rv h
  obtain ⟨a, dx, fs, t, zs, rfl, ha, hf, ht, hz, hlen, q⟩ := h
  obtain ⟨u, rfl, ru⟩ := rv.one
  cases ru
  have sb1 : Sub X (k + 1) X.A.in1.in1 := Sub.in1 (Sub.in1 (⟨hr, rfl⟩ : Sub X (k + 3) X.A))
  have sb : Sub X k X.A.in1.in1 := sb1.mono (Nat.le_succ k)
  refine callType_codes (Q₁ := fun obj s₁ => obj = .ref s.heap.objs.size ∧ s₁ = { s with heap := s.heap.push { cls := .type "list", data := .seq #[] } }) PySem.F.called_list (PySem.F.typeCall_list_1 _) PySem.F.entry_list_init
    (code_list_new _ ⟨rfl, rfl⟩) fun obj s₁ h₁ => ?_
  obtain ⟨rfl, rfl⟩ := h₁
  have hS : (s.heap.push { cls := .type "list", data := .seq #[] }).get? s.heap.objs.size = some { cls := .type "list", data := .seq #[] } := Heap.get?_push_size _ rfl
  refine ⟨⟨_, hS, rfl⟩, PySem.F.args_list_init_2 _ _, ?_⟩
  have nS : H s.heap.objs.size = none := I.hok.fresh (Nat.le_refl _)
  have fS : FpOk X pins H s.heap.objs.size := I.fpOk (Nat.le_refl _) nS
  have I1 : Inv X pins σ H { s with heap := s.heap.push { cls := .type "list", data := .seq #[] } } := I.kept (t' := s.toks) fun b u e => Heap.get?_push_of_some _ e
  show wpAny _ _ (do let old ← Builtin.List.listItems (.ref s.heap.objs.size); Builtin.List.listUpdate (.ref s.heap.objs.size) (fun _ => #[]); letGo old.toList.reverse; Builtin.List.listExtendWith (.ref s.heap.objs.size) (.ref a) .none) _ _ _
  refine wpAny_bind ?_
  unfold Builtin.List.listItems
  refine wpAny_bind (wpAny_seqItems hS rfl (wpAny_pure ?_))
  show wpAny _ _ (updateSeq s.heap.objs.size (fun _ => #[]) >>= fun _ => letGo (#[] : Array Value).toList.reverse >>= fun _ => Builtin.List.listExtendWith (.ref s.heap.objs.size) (.ref a) .none) _ _ _
  refine wpAny_bind (wpAny_updateSeq hS rfl ?_)
  have hS2 := Heap.get?_update_self (h := s.heap.push { cls := .type "list", data := .seq #[] }) (f := Obj.mapSeq fun _ => #[]) hS rfl
  have I2 := I1.turnedL (h' := (s.heap.push { cls := .type "list", data := .seq #[] }).update s.heap.objs.size (Obj.mapSeq fun _ => #[])) (t' := s.toks) (ch := [s.heap.objs.size]) (fun b o hb e => (Heap.get?_update_other _ _ (fun z => hb (by simp [z]))).trans e) (fun b hb => by rw [List.mem_singleton.mp hb]; exact fS)
  refine wpAny_bind (wpAny_letGo ?_)
  generalize hSa : s.heap.objs.size = S at *
  generalize hh2 : (s.heap.push { cls := .type "list", data := .seq #[] }).update S (Obj.mapSeq fun _ => #[]) = h2 at *
  have szS : S < h2.objs.size := Heap.lt_size hS2
  obtain ⟨mA, O, rr, _, _, _⟩ := ins_get I2.hok ha
  obtain ⟨od, J, hl⟩ := O.look
  obtain ⟨m0, hF⟩ := I2.fr
  have hne : S ≠ a := fun z => by rw [← z] at ha; rw [nS] at ha; cases ha
  have h1 : Builtin.List.listSameRef (.ref S) (.ref a) = false := by simp [Builtin.List.listSameRef, hne]
  unfold Builtin.List.listExtendWith
  refine wpAny_bind (J.type.here ?_)
  have n2 : (Value.ref C == Value.type "list") = false := rfl
  have n3 : (Value.ref C == Value.type "tuple") = false := rfl
  simp only [h1, n2, n3, Bool.or_false, Bool.false_eq_true, if_false]
  have I2p := I2.pinned (fp := [S]) (fun b hb => by rw [List.mem_singleton.mp hb]; exact fS) (fun b hb => by rw [List.mem_singleton.mp hb]; exact ⟨_, hS2, fun v z => nomatch z⟩)
  refine wpAny_bind (PySem.W.owit_iter hF I2.ok.mod.kin J hdI.at_ hdI.fn (thn (run_iter FI sb bI I2p ha hf ht) fun r s3 ⟨it, er, hn, h0, I3⟩ => ?_))
  subst er
  have e2 : upd H it (ItT t it 0) it = some (ItT t it 0) := upd_same
  have g : s3.heap.get? it = some (itTup t 0) := (I3.hok it _ e2).1
  have hS3 := (I3.pin (S, _) (List.mem_append_right _ (List.mem_append_right _ (mem_pinsAt (List.mem_singleton.mpr rfl) hS2)))).1
  have hTy : s3.TypeIs (.ref it) "tuple_iterator" := ⟨_, g, rfl⟩
  have fIt := ItX.inv_fp I3 e2 (Nat.le_trans I2.sz hn)
  have I4 := ItX.inv_drop I3 e2
  rw [ItX.dropH_upd h0] at I4 fIt
  unfold PySem.W.OwitIt
  refine wpAny_specialOf (name := Str.ofString "__next__") hTy PySem.F.slot_tuple_iterator_next.lookup ?_
  have I5 := I4.pinned (fp := [it]) (fun b hb => by rw [List.mem_singleton.mp hb]; exact fIt) (fun b hb => by rw [List.mem_singleton.mp hb]; exact ⟨_, g, fun v z => nomatch z⟩)
  show wpAny _ X.A.in1.in1 (holding [.ref it] (Builtin.List.listLengthHint (.ref a)) >>= _) _ _ s3
  obtain ⟨mA5, O5, rr5, _, _, _⟩ := ins_get I5.hok ha
  obtain ⟨od5, J5, hl5⟩ := O5.look
  obtain ⟨m5, hF5⟩ := I5.fr
  refine wpAny_bind (wpAny_holding ?_)
  have lenOk : ∀ {R : Value → Shared → Prop}, wpAny (model X.prog X.w) X.A.in1.in1 (call (.builtin "len") [.ref a]) (fun r s' => ∃ (n : Nat) (tk : Tok), r = .int n tk ∧ n < 1000 ∧ Inv X (pins ++ pinsAt [S] h2 ++ pinsAt [it] s3.heap) σ H s') R s3 := by
    intro R
    refine PySem.W.len_K hF5 I5.ok.mod.kin J5 hdL.at_ hdL.fn (thn (run_sub0 FL (Sub.in1 (Sub.mono sb1 (Nat.le_refl _))) bL I5 (.cons (relR a) .nil) hlen) fun r s' ⟨z, H', I', rz, n, ez, hn, eH⟩ => ?_)
    subst ez
    rw [eH] at I'
    obtain ⟨tk, rfl⟩ := rz
    exact ⟨⟨by omega, by omega⟩, n, _, rfl, hn, I'.tok _⟩
  unfold Builtin.List.listLengthHint
  refine wpAny_bind (wpAny_bind (J5.type.here ((PySem.W.looks_findIn I5.kIn hdL.at_).here ?_)))
  refine PySem.W.KFB.if_not rfl ?_
  refine if_yes rfl ?_
  refine wpAny_bind (wpAny_rule ?_)
  refine wpAny_bind (wpAny_attempt (thn lenOk fun r s6 ⟨n, tk, er, hn6, I6⟩ => ?_))
  subst er
  refine wpAny_bind (wpAny_of_eq (a := some ((n : Nat) : Int)) (by rfl) ?_)
  refine PySem.W.KFB.if_not (by unfold Builtin.List.listTooLong; exact decide_eq_false (by rw [sizeLine_eq, Int.toNat_natCast]; omega)) ?_
  refine wpAny_pure ?_
  -- the loop
  have I7 : Inv X pins σ H s6 := I6.unpinned.unpinned
  have hS6 := (I6.pin (S, _) (List.mem_append_right _ (List.mem_append_left _ (List.mem_append_right _ (mem_pinsAt (List.mem_singleton.mpr rfl) hS2))))).1
  have g6 := (I6.pin (it, _) (List.mem_append_right _ (List.mem_append_right _ (mem_pinsAt (List.mem_singleton.mpr rfl) g)))).1
  have fIt2 : FpOk X pins H it := ⟨fIt.1, fIt.2.1, fIt.2.2.1, fIt.2.2.2.1, fIt.2.2.2.2.1, fun p hp => fIt.2.2.2.2.2 p ((List.mem_append.mp hp).elim (fun z => List.mem_append_left _ z) fun z => List.mem_append_right _ (List.mem_append_left _ z))⟩
  have Sne' : S ≠ it := fun z => by
    rw [z, g6] at hS6
    exact ty_ne (show Value.type "tuple_iterator" = Value.type "list" from congrArg Obj.cls (Option.some.inj hS6)) (by decide +kernel)
  have loop : ∀ (s7 : Shared) (c : Nat), Inv X pins σ H s7 → s7.heap.get? S = some { cls := .type "list", data := .seq #[] c } → s7.heap.get? it = some (itTup t 0) →
      codeAny (model X.prog X.w) X.A.in1 (.builtin "list.extend.loop" ⟨[.ref S, .ref it, .none], []⟩) (wants (fun r s₂ => r = .none ∧ EP X pins σ Q (.ref S) s₂) X.xe) s7 := by
    intro s7 c J7 hS7 g7
    obtain ⟨its, rz, pl, hz2⟩ := J7.tuple ht
    have tne : t ≠ it := fun z => by
      obtain ⟨o, e1, e2, _⟩ := pl
      rw [z, g7] at e1
      rw [← Option.some.inj e1] at e2
      exact ty_ne (show Value.type "tuple_iterator" = Value.type "tuple" from e2) (by decide +kernel)
    have Sne : S ≠ it := fun z => by
      rw [z, g7] at hS7
      exact ty_ne (show Value.type "tuple_iterator" = Value.type "list" from congrArg Obj.cls (Option.some.inj hS7)) (by decide +kernel)
    have St : S ≠ t := fun z => by
      obtain ⟨o, e1, e2, _⟩ := pl
      rw [← z, hS7] at e1
      rw [← Option.some.inj e1] at e2
      exact ty_ne (show Value.type "list" = Value.type "tuple" from e2) (by decide +kernel)
    have li : its.length = zs.length := rz.length.symm
    have W := (PySem.Walks.tuple (prog := X.prog) (w := X.w) (A := X.A.in1.in1) sb1.room.hd it t tne its.toArray).toS
    refine PySem.codeAny_extend_loopS (A := X.A.in1) W (by rw [List.size_toArray, sizeLine_eq]; omega) S (fun z => ?_) .none _ 0 s7 #[] c rfl (Nat.zero_le _) ⟨⟨_, g7, rfl, rfl⟩, pl⟩ hS7 (PySem.ItemsOf.nil _) fun s8 acc c8 m hS8 hit => ?_
    · rcases List.mem_cons.mp z with z | z
      · exact Sne z
      · exact St (List.mem_singleton.mp z)
    have eacc : acc = its.toArray := by
      refine Array.ext_getElem? fun j => ?_
      by_cases hj : j < acc.size
      · rw [Array.getElem?_eq_getElem hj]
        exact (hit.2 j _ (Array.getElem?_eq_getElem hj)).symm
      · rw [Array.getElem?_eq_none (by omega), Array.getElem?_eq_none (by rw [← hit.1]; omega)]
    subst eacc
    have J8 := J7.turnedL (h' := s8.heap) (t' := s8.toks) (ch := [S, it]) (fun b o hb e => m.heap b o hb e) (fun b hb => by
      rcases List.mem_cons.mp hb with z | z
      · rw [z]; exact fS
      · rw [List.mem_singleton.mp z]; exact fIt2)
    have J9 := J8.take (h' := s8.heap) (t' := s8.toks) (it := S) (o := .lst zs) (fun _ _ _ e => e) fS ⟨by rw [sizeLine_eq]; omega, its, c8, rz, hS8⟩
    have e8 : s8 = { s7 with heap := s8.heap, toks := s8.toks } := Moved.eq_with m
    rw [e8]
    exact ⟨rfl, .ref S, _, J9, rfl, q S nS⟩
  refine wpAny_ite_split (fun _ => ?_) (fun _ => wpAny_pure ⟨plainId_quiet PySem.F.plain_extend_loop _, loop s6 _ I7 hS6 g6⟩)
  refine wpAny_bind (wpAny_rule ?_)
  refine wpAny_bind ?_
  show wpAny _ _ (updateSeq S (·.push .none) >>= fun _ => updateSeq S (·.pop)) _ _ _
  refine wpAny_bind (wpAny_updateSeq hS6 rfl ?_)
  have e9 := Heap.get?_update_self (h := s6.heap) (f := Obj.mapSeq (·.push Value.none)) hS6 rfl
  refine wpAny_updateSeq e9 rfl ?_ (by show 1 ≤ sizeLine; rw [sizeLine_eq]; decide) (by show 0 ≤ sizeLine + 1; exact Nat.zero_le _)
  have e10 := Heap.get?_update_self (h := s6.heap.update S (Obj.mapSeq (·.push Value.none))) (f := Obj.mapSeq (·.pop)) e9 rfl
  have J := I7.turnedL (h' := (s6.heap.update S (Obj.mapSeq (·.push Value.none))).update S (Obj.mapSeq (·.pop))) (t' := s6.toks) (ch := [S]) (fun b o hb e => (Heap.get?_update_other _ _ (fun z => hb (by simp [z]))).trans ((Heap.get?_update_other _ _ (fun z => hb (by simp [z]))).trans e)) (fun b hb => by rw [List.mem_singleton.mp hb]; exact fS)
  refine wpAny_pure ⟨plainId_quiet PySem.F.plain_extend_loop _, loop _ _ J e10 ?_⟩
  exact (Heap.get?_update_other _ _ Sne').trans ((Heap.get?_update_other _ _ Sne').trans g6)
end
end Tw

set_option Elab.async false
set_option linter.all false
set_option maxRecDepth 100000
set_option maxHeartbeats 2000000
/-! own rule: sorted(t), t a tuple of whole numbers -/
namespace Tw
open PySem PySem.Spec PyProof.Rows L2
section
variable {prog : Program} {w : World} {A : Around} {E : Value → Shared → Prop} {s : Shared}
/-- a tuple's items, gathered: they are met as a list's are -/
theorem gather_tup {t : Addr} {vs : List Value} {Q : List Value → Shared → Prop} (ht : s.heap.IsTuple t vs.toArray)
    (h : Q vs { s with heap := (s.heap.push (seqObj "list" #[] 0)).update s.heap.objs.size (Obj.mapSeq (· ++ vs.toArray)) }) (hz : vs.length ≤ sizeLine) :
    wpAny (model prog w) A (collect (.ref t)) Q E s := by
  obtain ⟨o, ho, hc, n, hd⟩ := ht
  unfold collect
  refine wpAny_bind (wpAny_runValue (codeAny_builtin entry_proto_collect' ?_))
  show wpAny _ _ (do again (.builtin "list.__iadd__" ⟨[← newList [], .ref t], []⟩)) _ _ s
  refine wpAny_bind (wpAny_newList (wpAny_pure ⟨Code.quiet_builtin _ (by decide +kernel), codeAny_builtin entry_list_iadd' ?_⟩))
  show wpAny _ _ (Builtin.List.listExtendWith (.ref s.heap.objs.size) (.ref t) (.ref s.heap.objs.size)) _ _ { s with heap := s.heap.push (seqObj "list" #[] 0) }
  have ho2 : (s.heap.push (seqObj "list" #[] 0)).get? t = some o := Heap.get?_push_of_some _ ho
  unfold Builtin.List.listExtendWith
  refine wpAny_bind (wpAny_typeOf (T := "tuple") ⟨o, ho2, hc⟩ ?_)
  have tt : (Value.type "tuple" == Value.type "tuple") = true := by rfl
  rw [if_pos (by rw [tt]; simp)]
  refine wpAny_bind (listItems_at ho2 hd ?_)
  refine wpAny_bind (listItems_at (xs := #[]) (n := 0) (Heap.get?_push_size _ rfl) rfl ?_)
  rw [if_neg (by simp)]
  refine wpAny_bind (listUpdate_at (xs := #[]) (n := 0) (Heap.get?_push_size _ rfl) rfl ?_ (Nat.zero_le _) (by show (#[] ++ vs.toArray).size ≤ sizeLine + 1; simp only [Array.size_append, List.size_toArray, List.length_nil]; omega))
  refine wpAny_pure ?_
  refine wpAny_bind (wpAny_load (get?_update_seq (Heap.get?_push_size _ rfl) _) ?_)
  show wpAny _ _ (pure ((#[] : Array Value) ++ vs.toArray).toList) Q E _
  rw [show ((#[] : Array Value) ++ vs.toArray).toList = vs by simp]
  exact wpAny_pure h
end
def rSortedTu (K : PySem.W.Frag) : List V → Hp → VK → Prop := fun vs H Q => ∃ (a : Addr) (ns : List Int), vs = [V.ref a] ∧ SqT K H a (ns.map V.int) ∧
  ∀ (ns' : List Int) (p : Addr), ns'.Perm ns → ns'.Pairwise (· ≤ ·) → H p = none → Q (.ref p) (upd H p (.lst (ns'.map V.int)))
section
variable {X : Cx}
theorem cr_sortedTu : CallR X (.builtin "sorted") (rSortedTu X.K) := by
  intro pins s σ H vs us Q I r h
  obtain ⟨a, ns, rfl, hs, q⟩ := h
  obtain ⟨its, rv, hl, hz⟩ := I.tuple hs
  rw [Vals.ref1 r]
  have hi := rv.ints
  have hzi : its.length ≤ sizeLine := by rw [← rv.length]; exact hz
  refine Calls.call_function_entry kind_sorted plain_sorted entry_sorted (args_sorted1 _) ?_
  unfold Builtin.«sorted»
  refine wpAny_bind (m := checkCount "sorted" 1 1 _) (wpAny_pure ?_)
  refine wpAny_bind (gather_tup hl ?_ hzi)
  refine wpAny_bind (wpAny_newList ?_ hzi)
  have hsz : ((s.heap.push (seqObj "list" #[] 0)).update s.heap.objs.size (Obj.mapSeq (· ++ its.toArray))).objs.size = s.heap.objs.size + 1 := by
    rw [Heap.size_update, size_push']
  have hoL : (((s.heap.push (seqObj "list" #[] 0)).update s.heap.objs.size (Obj.mapSeq (· ++ its.toArray))).push (seqObj "list" its.toArray 0)).get? (s.heap.objs.size + 1) = some (seqObj "list" its.toArray 0) := by
    rw [← hsz]
    exact Heap.get?_push_size _ rfl
  show wpAny _ _ _ _ _ { s with heap := ((s.heap.push (seqObj "list" #[] 0)).update s.heap.objs.size (Obj.mapSeq (· ++ its.toArray))).push (seqObj "list" its.toArray 0) }
  rw [hsz]
  refine wpAny_bind (wpAny_holding (wpAny_call_entry slot_list_sort ⟨_, hoL, rfl⟩ entry_list_sort (SrtO.list_sort_ord SrtO.swo_int hoL hzi (fun h2 => SrtO.ints_sortable hi h2) fun out h1 h2 => ⟨_, rfl, ?_⟩) (args_list_sort _)))
  refine wpAny_pure ⟨_, rfl, ?_⟩
  obtain ⟨k1, k2, k3⟩ := SrtO.ints_out hi h1 h2
  obtain ⟨ep, he'⟩ := PyProof.Rows.sortedAll_at s.heap its out.toArray
  have hlen : ((out.map SrtO.iv).map V.int).length ≤ sizeLine := by
    rw [List.length_map, k2.length_eq]
    rw [List.length_map] at hz
    exact hz
  exact ⟨.ref _, upd H (s.heap.objs.size + 1) (.lst ((out.map SrtO.iv).map V.int)), I.laid (t' := s.toks) (fun _ _ => PyProof.Rows.sortedAll_old) (Nat.le_succ _) ⟨hlen, out, ep, vals_of_ints k1, he'⟩, rfl, q _ _ k2 k3 (I.hok.fresh (Nat.le_succ _))⟩
end
end Tw

set_option Elab.async false
set_option linter.all false
set_option maxRecDepth 100000
set_option maxHeartbeats 1000000
/-! != of two tuples of two things, equal ones in turn -/
namespace Cq
open PySem PySem.SeqAt
open AutoSeq1 (wpAny_loadPart')
open MeetsSeq MeetsSeq2 MeetsSeq3 SeqRoads2
theorem pairs_ne {prog : Program} {w : World} {A : Around} {R : Result → Shared → Prop} {p q : Addr} {a b c e : Value} {k k2 : Nat} {u u2 : Option Addr} {z z2 : Array (Option Value)} {s : Shared}
    (hp : s.heap.get? p = some { cls := .type "tuple", dict := u, data := .seq #[a, b] k, slots := z }) (hq : s.heap.get? q = some { cls := .type "tuple", dict := u2, data := .seq #[c, e] k2, slots := z2 })
    (h : wpAny (model prog w) A.in1 (eqBool a c) (fun r s1 => r = true ∧ wpAny (model prog w) A.in1 (eqBool b e) (fun r s2 => r = true ∧ R (.ok (.ret (.bool false))) s2) (fun x s2 => R (.error x) s2) s1) (fun x s1 => R (.error x) s1) s) :
    wpAny (model prog w) A.in1 (Builtin.«tuple.__ne__» ⟨[.ref p, .ref q], []⟩) (GQ.FinOf prog w A R) (fun x s1 => R (.error x) s1) s := by
  have sub2 := AutoSeq1.sub_tuple_tuple
  obtain ⟨hh, gg, dd, tk, os⟩ := s
  wp_walk using wpAny_loadPart' hp, wpAny_loadPart' hq, wpAny_forIn_list _ (fun rest t s1 => t.1 = none ∧ ((rest = [(a, c), (b, e)] ∧ wpAny (model prog w) A.in1 (eqBool a c) (fun r s1 => r = true ∧ wpAny (model prog w) A.in1 (eqBool b e) (fun r s2 => r = true ∧ R (.ok (.ret (.bool false))) s2) (fun x s2 => R (.error x) s2) s1) (fun x s1 => R (.error x) s1) s1) ∨
    (rest = [(b, e)] ∧ wpAny (model prog w) A.in1 (eqBool b e) (fun r s2 => r = true ∧ R (.ok (.ret (.bool false))) s2) (fun x s2 => R (.error x) s2) s1) ∨ (rest = [] ∧ R (.ok (.ret (.bool false))) s1))) _
  case turn =>
    rintro ⟨y, x⟩ rest t s1 ⟨ht, ⟨e1, h1⟩ | ⟨e1, h1⟩ | ⟨e1, _⟩⟩
    · injection e1 with e1 e2
      injection e1 with e3 e4
      subst e3 e4 e2
      refine wpAny_bind (wpAny_mono h1 (fun r s2 g => ?_) fun _ _ g => g)
      obtain ⟨rfl, g⟩ := g
      wp_walk
      exact ⟨rfl, .inr (.inl ⟨rfl, g⟩)⟩
    · injection e1 with e1 e2
      injection e1 with e3 e4
      subst e3 e4 e2
      refine wpAny_bind (wpAny_mono h1 (fun r s2 g => ?_) fun _ _ g => g)
      obtain ⟨rfl, g⟩ := g
      wp_walk
      exact ⟨rfl, .inr (.inr ⟨rfl, g⟩)⟩
    · cases e1
  case fin =>
    rintro ⟨t1, t2⟩ s1 ⟨ht, ⟨e1, _⟩ | ⟨e1, _⟩ | ⟨_, h1⟩⟩
    · cases e1
    · cases e1
    · simp only at ht
      subst ht
      wp_walk
      simpa [Builtin.Tuple.tupleCompareSizes] using h1
  case h => exact ⟨rfl, .inl ⟨rfl, h⟩⟩
end Cq
namespace L2
open PySem PySem.Spec PyProof.Rows
theorem vals_two {a b : V} {l : List Value} (r : Vals [a, b] l) : ∃ x y, l = [x, y] ∧ RelV a x ∧ RelV b y := by
  cases r with
  | cons ra r =>
    cases r with
    | cons rb r =>
      cases r
      exact ⟨_, _, rfl, ra, rb⟩
def DPair (K : PySem.W.Frag) (D1 D2 : Eqv) : Eqv := fun x y H => ∃ (p q : Addr) (a b c e : V), x = .ref p ∧ y = .ref q ∧ SqT K H p [a, b] ∧ SqT K H q [c, e] ∧ D1 a c H ∧ D2 b e H
def rNeP (D : Eqv) : R2 := fun x y H Q => D x y H ∧ ∀ H', Ext H H' → Q (.bl false) H'
theorem op_neP {X : Cx} {n : Nat} {D1 D2 : Eqv} (g1 : EqG X n D1) (g2 : EqG X n D2) (m2 : Mon D2) (hr : Room (n + 1) X.A) : OpR X (compareOp .NotEq) (rNeP (DPair X.K D1 D2)) := by
  intro pins s σ H x y v u Q I rx ry ⟨⟨p, q, a, b, c, e, ex, ey, hp, hq, d1, d2⟩, k⟩
  subst ex ey
  cases rx
  cases ry
  have sb : Sub X (n + 1) X.A := ⟨hr, rfl⟩
  obtain ⟨its, r, e1, _⟩ := I.tuple hp
  obtain ⟨its2, r2, e2, _⟩ := I.tuple hq
  obtain ⟨va, vb, ei, ra, rb⟩ := vals_two r
  obtain ⟨vc, ve, ei2, rc, re⟩ := vals_two r2
  subst ei ei2
  obtain ⟨⟨cl, u1, da, z1⟩, o1, c1, n1, w1⟩ := id e1
  obtain ⟨⟨cl2, u2, da2, z2⟩, o2, c2, n2, w2⟩ := id e2
  dsimp only at c1 w1 c2 w2
  subst c1 w1 c2 w2
  show wpAny (model X.prog X.w) X.A (richCompare .NotEq (.ref p) (.ref q)) (EP X pins σ Q) X.xe s
  refine wpAny_richCompare_same_room (op := .NotEq) ⟨_, o1, rfl⟩ ⟨_, o2, rfl⟩ F.slot_tuple_ne (GQ.call_here F.slot_tuple_ne ⟨_, o1, rfl⟩ F.entry_tuple_ne (F.args_tuple_ne_2 _ _) ?_) hr.units0
  refine Cq.pairs_ne (R := wants (fun v s' => v ≠ .notImplemented ∧ EP X pins σ Q v s') X.xe) o1 o2 ?_
  refine wpAny_mono (g1 X.A.in1 pins s σ H _ _ va vc sb.in1 I ra rc d1) (fun t s1 ⟨ht, H1, I1, x1⟩ => ⟨ht, ?_⟩) fun _ _ g => g
  refine wpAny_mono (g2 X.A.in1 pins s1 σ H1 _ _ vb ve sb.in1 I1 rb re (m2 _ _ _ _ x1 d2)) (fun t s2 ⟨ht, H2, I2, x2⟩ => ⟨ht, ?_⟩) fun _ _ g => g
  exact ⟨(fun g => nomatch g), .bl false, H2, I2, rfl, k H2 (x1.trans x2)⟩
end L2


set_option Elab.async false
set_option linter.all false
set_option maxRecDepth 100000
set_option maxHeartbeats 4000000
/-! set(xs), xs a list of ints, as a value -/
namespace L2
open PySem PySem.Spec PyProof.Rows
section
variable {P : Program} {w : World} {A : Around} {E : Value → Shared → Prop}
/-- the set that is there at first -/
abbrev eS (w : World) : Obj := { cls := .type "set", dict := none, data := .set #[] 0 (.fresh 0 0 (!w.params.followText "set-order")) }
theorem init_over {z : Shared} {D l : Addr} {items : Array Value} {ns : List Int} {R : Result → Shared → Prop} (hh : A.handled = none) (hD : z.heap.get? D = some (eS w)) (hl : z.heap.IsList l items) (hit : IntsAre items.toList ns) (hb : ns.length + 1 < scanBound) (hne : l ≠ D)
    (q : ∀ (h' : Heap) (tk c : Nat), SetR w h' D (fun j => decide (j ∈ ns)) c → c ≤ ns.length → (∀ b o, b ≠ D → z.heap.get? b = some o → h'.get? b = some o) → R (.ok (.ret .none)) { z with heap := h', toks := tk }) :
    codeAny (model P w) A (.call (.builtin "set.__init__") ⟨[.ref D, .ref l], []⟩) R z := by
  have hn : items.size = ns.length := by
    have e := IntsAre.length hit
    rw [Array.length_toList] at e
    exact e
  have hT : Shared.TypeIs z (.ref D) "set" := ⟨_, hD, rfl⟩
  have lD : D < z.heap.objs.size := Heap.lt_size hD
  obtain ⟨⟨oc, od, oa, os⟩, hol, hcl, nl, hdl⟩ := id hl
  have ll : l < z.heap.objs.size := Heap.lt_size hol
  dsimp only at hcl hdl
  subst hcl hdl
  have no1 := F.sub_list_set
  have no2 := F.sub_list_frozenset
  have no3 : (Value.type "list" == Value.type "dict") = false := by decide
  refine codeAny_call_builtin F.called_set.init.plain F.entry_set_init (check_set_init_1 hT ?_)
  unfold Builtin.«set.__init__» noKeywords Builtin.Frozenset.updateFrom
  generalize hPI : pyIter = PI
  wp_walk
  subst hPI
  refine wpAny_pyIter_list hl ?_
  refine wpAny_bind (wpAny_runValue ?_)
  have free3 : A.in1.in1.handled = none := by simp [hh]
  have apart : l ≠ z.heap.objs.size := Nat.ne_of_lt ll
  have offS : D ∉ [z.heap.objs.size, l] := fun m => by
    rcases List.mem_cons.mp m with y | y
    · exact absurd y (Nat.ne_of_lt lD)
    · exact hne (List.mem_singleton.mp y).symm
  have each : ∀ (i : Nat) (v : Value), items[i]? = some v → ∃ k t, ns[i]? = some k ∧ v = .int k t := fun i v e => by
    have hi : i < ns.length := hn ▸ (Array.getElem?_eq_some_iff.mp e).1
    obtain ⟨t, e2⟩ := IntsAre.int_at hit i v (by rw [Array.getElem?_toList]; exact e)
    exact ⟨ns[i], t, List.getElem?_eq_getElem hi, by rw [e2, List.getD_eq_getElem?_getD, List.getElem?_eq_getElem hi]; rfl⟩
  refine set_update_ints ((Walks.list free3 _ l apart items).toS) D offS ns hn hb each (items.size - 0) 0 _ (by omega) (Nat.zero_le _) ?_ ⟨0, Nat.le_refl 0, ?_⟩ ?_
  · exact ⟨⟨_, Heap.get?_push_size _ rfl, rfl, rfl⟩, hl.push _⟩
  · exact setR_new_at (Heap.get?_push_of_some _ hD)
  rintro ⟨h', gens', drawn', tk', os'⟩ c moved hc new
  obtain rfl : gens' = z.gens := moved.gens
  obtain rfl : drawn' = z.drawn := moved.drawn
  obtain rfl : os' = z.os := moved.os
  show wpAny _ _ _ _ _ _
  refine wpAny_pure ?_
  show wpAny _ _ (ret Value.none) _ _ _
  refine wpAny_pure (q h' tk' c new (by omega) fun b o hbD e => ?_)
  have lb : b < z.heap.objs.size := Heap.lt_size e
  refine moved.heap b o (fun m => ?_) (Heap.get?_push_of_some _ e)
  rcases List.mem_cons.mp m with y | y
  · exact hbD y
  · exact absurd (List.mem_singleton.mp y) (Nat.ne_of_lt lb)
theorem set_over {z : Shared} {l : Addr} {items : Array Value} {ns : List Int} {Q : Value → Shared → Prop} (hh : A.handled = none) (hl : z.heap.IsList l items) (hit : IntsAre items.toList ns) (hb : ns.length + 1 < scanBound)
    (q : ∀ (h' : Heap) (tk c : Nat), SetR w h' z.heap.objs.size (fun j => decide (j ∈ ns)) c → c ≤ ns.length → (∀ b o, z.heap.get? b = some o → h'.get? b = some o) → Q (.ref z.heap.objs.size) { z with heap := h', toks := tk }) :
    wpAny (model P w) A (call (.type "set") [.ref l]) Q E z := by
  obtain ⟨c0, t0, mro0⟩ := F.called_set.mro
  have m1 := F.called_set.made
  have m2 := F.called_set.sub
  have m3 := F.called_set.notType
  have m4 := F.called_set.canCreate
  have m5 := F.typeCall_set_1 (.ref l)
  have ll : l < z.heap.objs.size := by
    obtain ⟨o, ho, _⟩ := id hl
    exact Heap.lt_size ho
  refine wpAny_call (codeAny_of_tree ?_)
  show wpAny _ _ (callAny (.type "set") _) _ _ _
  refine wpAny_pure ⟨Code.quiet_builtin _ (by decide +kernel), codeAny_builtin F.entry_type_call ?_⟩
  rw [Around.under_plain (weight_type_call_type "set" [.ref l] []) rfl]
  repeat any_goals first | assumption | wp_step
  have new1 : (z.heap.push (eS w)).get? z.heap.objs.size = some (eS w) := Heap.get?_push_size _ rfl
  refine codeAny_mono (code_set_led1 (.ref l) (E := E) (Q₁ := fun v y => v = .ref z.heap.objs.size ∧ y = { z with heap := z.heap.push (eS w) }) ⟨rfl, rfl⟩) fun r y hr => ?_
  cases r with
  | error e => exact hr
  | ok fl =>
    cases fl with
    | ret v =>
      obtain ⟨rfl, rfl⟩ := hr
      have hT : Shared.TypeIs { z with heap := z.heap.push (eS w) } (.ref z.heap.objs.size) "set" := ⟨_, new1, rfl⟩
      have i1 := F.called_set.init.lookup
      have i2 := F.called_set.init.bind (.ref z.heap.objs.size)
      repeat any_goals first | assumption | wp_step
      refine init_over (A := A.in1) (z := { z with heap := z.heap.push (eS w) }) (D := z.heap.objs.size) (by simp [hh]) new1 (hl.push _) hit hb (Nat.ne_of_lt ll) fun h' tk c S hc k => ?_
      show wpAny _ _ (pure (some Value.none)) _ _ _
      repeat any_goals first | assumption | wp_step
      exact q h' tk c S hc fun b o e => k b o (Nat.ne_of_lt (Heap.lt_size e)) (Heap.get?_push_of_some _ e)
    | _ => exact hr.elim
end
section
variable {X : Cx}
/-- set(xs) -/
def rSetLI (K : PySem.W.Frag) (w : World) : List V → Hp → VK → Prop := fun xs H Q => ∃ (l : Addr) (ns : List Int), xs = [V.ref l] ∧ SqL K H l (ns.map V.int) ∧ ns.length ≤ 1000 ∧ ∀ p n, n ≤ ns.length → H p = none → Q (.ref p) (upd H p (SetO w p (fun j => decide (j ∈ ns)) n))
theorem cr_setLI (hc : X.calm = true) : CallR X (.type "set") (rSetLI X.K X.w) := by
  intro pins s σ H xs us Q I r h
  obtain ⟨l, ns, rfl, hl, h1, q⟩ := h
  obtain ⟨its, rv, pl, _⟩ := I.list hl
  rw [Vals.ref1 r]
  refine set_over (I.ok.hd hc) pl.isList (ns := ns) (by simpa using rv.ints) (by unfold scanBound; omega) fun h' tk c R hc k => ?_
  exact ⟨.ref _, upd H s.heap.objs.size (SetO X.w s.heap.objs.size (fun j => decide (j ∈ ns)) c), I.laid (t' := tk) k (Nat.le_refl _) (setO_new R), rfl, q _ c hc (I.hok.fresh (Nat.le_refl _))⟩
end
end L2

set_option Elab.async false
set_option linter.all false
set_option maxRecDepth 100000
set_option maxHeartbeats 4000000
/-! sorted(xs), xs a list of tuples of ints, as long as a list may be -/
namespace L2
open PySem PySem.Spec PyProof.Rows PySem.W
abbrev tupE (ns : List Int) : PyData := .tuple (ns.map .int)
theorem tupE_le : dataLe false tupE = fun p q => decide (p ≤ q) := by
  funext p q
  show (!dataLt (.tuple (q.map .int)) (.tuple (p.map .int))) = _
  rw [dataLt_tuple]
  show (!rowLt (q.map .int) (p.map .int)) = _
  rw [dataLt_ints]
  by_cases h : q < p
  · have h' : ¬ p ≤ q := fun r => List.not_lt.mpr r h
    simp [h, h']
  · have h' : p ≤ q := List.not_lt.mp h
    simp [h, h']
section
variable {X : Cx} {pins : List (Addr × Obj)} {σ : St} {H : Hp} {s : Shared}
abbrev TupV (K : PySem.W.Frag) (H : Hp) (u : Value) (ns : List Int) : Prop := ∃ t, u = .ref t ∧ SqT K H t (ns.map V.int)
theorem tupV_of : ∀ {xs : List V} {bs : List (List Int)} {us : List Value}, Paired (TupI X.K H) xs bs → Vals xs us → EachIs (TupV X.K H) us bs
  | _, _, _, .nil, .nil => .nil
  | _, _, _, .cons ⟨t, e, h⟩ p, .cons r v => by
    subst e
    cases r
    exact .cons ⟨t, rfl, h⟩ (tupV_of p v)
theorem tupV_to : ∀ {bs : List (List Int)} {us : List Value}, EachIs (TupV X.K H) us bs → Paired (TupI X.K H) (us.map bkV) bs ∧ ∀ u ∈ us, ∃ a, u = Value.ref a
  | _, _, .nil => ⟨.nil, fun u hu => absurd hu (by simp)⟩
  | _, _, .cons ⟨t, e, h⟩ p => by
    subst e
    obtain ⟨h1, h2⟩ := tupV_to p
    refine ⟨.cons ⟨t, rfl, h⟩ h1, fun u hu => ?_⟩
    rcases List.mem_cons.mp hu with e | hu
    · exact ⟨t, e⟩
    · exact h2 u hu
theorem tupV_reads (I : Inv X pins σ H s) {u : Value} {ns : List Int} (h : TupV X.K H u ns) : ∃ as, Reads s.heap u (tupE ns) as := by
  obtain ⟨t, rfl, ht⟩ := h
  obtain ⟨its, rv, hT, _⟩ := I.tuple ht
  exact ⟨_, reads_tuple_ints hT (by simpa using rv.ints)⟩
/-- sorted(xs): the items ascending as tuples are -/
def rSortTA (K : PySem.W.Frag) : List V → Hp → VK → Prop := fun vs H Q => ∃ (a : Addr) (xs : List V) (bs : List (List Int)), vs = [V.ref a] ∧ SqL K H a xs ∧ Paired (TupI K H) xs bs ∧ (∀ b ∈ bs, b ≠ []) ∧
  ∀ (ys : List V) (p : Addr), Paired (TupI K H) ys (bs.mergeSort fun p q => decide (p ≤ q)) → H p = none → Q (.ref p) (upd H p (.lst ys))
theorem cr_sortTA (hu : X.A.units + 65 < cLine) : CallR X (.builtin "sorted") (rSortTA X.K) := by
  intro pins s σ H vs us Q I r h
  obtain ⟨a, xs, bs, rfl, hs, hp, hne, q⟩ := h
  obtain ⟨its, rv, hl, hz⟩ := I.list hs
  rw [Vals.ref1 r]
  have e0 : EachIs (TupV X.K H) its bs := tupV_of hp rv
  have hlen : bs.length = xs.length := (Paired.length hp).symm
  refine sorted_data (A := X.A) (R := TupV X.K H) (enc := tupE) hl.isList e0 (e0.mono fun u ns h => tupV_reads I h) (AllAlike.of fun b b' => by simp [alike, alike_ints]) (.inl fun d hd => ?_) (by rw [hlen]; exact hz) (fun b _ => ?_) fun out ho eo => ?_
  · obtain ⟨b, hb, rfl⟩ := List.mem_map.mp hd
    match b, hne b hb with
    | x :: r, _ => exact ⟨_, _, rfl⟩
  · have : (tupE b).depth ≤ 1 := by simp [PyData.depth, depth_ints]
    omega
  · rw [tupE_le] at eo
    obtain ⟨e1, e2⟩ := tupV_to eo
    obtain ⟨ep, he'⟩ := PyProof.Rows.sortedAll_at s.heap its out.toArray
    have hz2 : (out.map bkV).length ≤ sizeLine := by
      rw [List.length_map, ho, hlen]
      exact hz
    exact ⟨.ref _, upd H (s.heap.objs.size + 1) (.lst (out.map bkV)), I.laid (t' := s.toks) (fun _ _ => PyProof.Rows.sortedAll_old) (Nat.le_succ _) ⟨hz2, out, ep, bkV_vals e2, he'⟩, rfl, q _ _ e1 (I.hok.fresh (Nat.le_succ _))⟩
end
end L2

set_option Elab.async false
set_option linter.all false
set_option maxRecDepth 100000
set_option maxHeartbeats 4000000
/-! math.factorial -/
namespace L2
open PySem PySem.Spec PyProof.Rows
section
variable {X : Cx}
abbrev facN (n : Nat) : Nat := PySem.Builtin.Math.factorialNat n
def rFac : List V → Hp → VK → Prop := fun vs H Q => ∃ n : Nat, vs = [.int n] ∧ n ≤ 20000 ∧ Q (.int (facN n : Nat)) H
theorem cr_fac : CallR X (.builtin "math.factorial") rFac := by
  intro pins s σ H vs us Q I r h
  obtain ⟨n, rfl, hn, q⟩ := h
  cases r with
  | cons r1 r2 =>
    cases r2
    obtain ⟨t, rfl⟩ := r1
    exact PySem.W.mc_factorial (by omega) (by omega) fun _ => ⟨.int _, H, I.tok _, ⟨_, rfl⟩, q⟩
end
end L2

set_option Elab.async false
set_option linter.all false
set_option maxRecDepth 100000
set_option maxHeartbeats 4000000
/-! sorted(xs), xs a list of one item at most, whatever it is -/
namespace L2
open PySem PySem.Spec PyProof.Rows PySem.W
section
variable {X : Cx}
def rSort1 (K : PySem.W.Frag) : List V → Hp → VK → Prop := fun vs H Q => ∃ (a : Addr) (xs : List V), vs = [V.ref a] ∧ SqL K H a xs ∧ xs.length ≤ 1 ∧
  ∀ p : Addr, H p = none → Q (.ref p) (upd H p (.lst xs))
theorem cr_sort1 : CallR X (.builtin "sorted") (rSort1 X.K) := by
  intro pins s σ H vs us Q I r h
  obtain ⟨a, xs, rfl, hs, h1, q⟩ := h
  obtain ⟨its, rv, hl, hz⟩ := I.list hs
  rw [Vals.ref1 r]
  have hlen : xs.length = its.length := rv.length
  refine Srt.sorted_any hl.isList (by omega) (fun h2 => by omega) fun out hp => ?_
  have e : out = its := by
    match its, hlen with
    | [], _ => exact List.Perm.eq_nil hp
    | [x], _ => exact List.perm_singleton.mp hp
    | _ :: _ :: _, hl => simp only [List.length_cons] at hl; omega
  subst e
  obtain ⟨ep, he'⟩ := PyProof.Rows.sortedAll_at s.heap out out.toArray
  exact ⟨.ref _, upd H (s.heap.objs.size + 1) (.lst xs), I.laid (t' := s.toks) (fun _ _ => PyProof.Rows.sortedAll_old) (Nat.le_succ _) ⟨hz, out, ep, rv, he'⟩, rfl, q _ (I.hok.fresh (Nat.le_succ _))⟩
end
end L2

set_option Elab.async false
set_option linter.all false
set_option maxRecDepth 100000
set_option maxHeartbeats 4000000
/-! xs.extend(t), t a tuple -/
namespace PySem
open PySem PySem.W PySem.AutoSeq1
theorem ext_tup {l b : Addr} {items items2 : Array Value} {n n2 : Nat} {dc : Option Addr} {sl : Array (Option Value)} (hs0 : ¬(!items.isEmpty && Builtin.List.listTooLong (items.size + items2.size)) = true) (hs1 : items.size ≤ sizeLine) (hs2 : items.size + items2.size ≤ sizeLine + 1) :
    Meets (Builtin.«list.extend» ⟨[.ref l, .ref b], []⟩) (fun _ R s => s.heap.get? l = some { cls := .type "list", dict := none, data := .seq items n, slots := #[] } ∧ s.heap.get? b = some { cls := .type "tuple", dict := dc, data := .seq items2 n2, slots := sl } ∧
      R (.ok (.ret Value.none)) { s with heap := s.heap.update l (Obj.mapSeq fun x => x ++ items2), toks := s.toks }) :=
  .of_wp fun prog w A R s h => by
    obtain ⟨hp, g, d, tk, os⟩ := s
    obtain ⟨hl, hb, h⟩ := h
    have f1 := idx_int
    have f2 := sub_tuple_tuple
    have f3 := sub_list_list
    have f4 := sub_tuple_list
    have f5 := sub_list_tuple
    have hz' : (items ++ items2).size ≤ sizeLine + 1 := by rw [Array.size_append]; exact hs2
    wp_walk using (wpAny_updateSeq hl rfl (hz := hs1) (_hz' := hz')), wpAny_loadPart' hl, wpAny_loadPart' hb
    exact ⟨_, rfl, h⟩
end PySem
namespace L2
open PySem PySem.Spec PyProof.Rows PySem.W
section
variable {X : Cx}
def rExtT (K : PySem.W.Frag) : V → List V → Hp → VK → Prop := fun x vs H Q => ∃ (l b : Addr) (xs zs : List V), x = .ref l ∧ vs = [.ref b] ∧ H l = some (.lst xs) ∧ SqT K H b zs ∧ xs.length + zs.length ≤ sizeLine ∧
  Q .non (upd H l (.lst (xs ++ zs)))
theorem mt_extendT : MtM X "list.extend" (rExtT X.K) := by
  intro pins s σ H x vs v us Q I rx rv h
  obtain ⟨l, b, xs, zs, rfl, rfl, hH, hB, hz, q⟩ := h
  cases rx
  obtain ⟨u, rfl, ru⟩ := rv.one
  cases ru
  obtain ⟨z, its, n, r, hl, e⟩ := I.lstM hH
  obtain ⟨its2, r2, ⟨ob, eb, hc, n2, hd⟩, hl2⟩ := I.tuple hB
  obtain ⟨cls, dc, data, sl⟩ := ob
  dsimp only at hc hd
  subst hc hd
  have h1 := r.length
  have h2 := r2.length
  have hsz : its.toArray.size + its2.toArray.size ≤ sizeLine := by rw [List.size_toArray, List.size_toArray]; omega
  have hlong : ¬ (!its.toArray.isEmpty && Builtin.List.listTooLong (its.toArray.size + its2.toArray.size)) = true := by
    rw [notLongL hsz, Bool.and_false]
    exact Bool.false_ne_true
  refine call_meets F.slot_list_extend ⟨_, e, rfl⟩ F.entry_list_extend (F.args_list_extend_2 _ _) (PySem.ext_tup hlong (by rw [List.size_toArray]; omega) (by omega)) ⟨e, eb, ?_⟩
  refine ⟨.non, _, I.lset (its' := its ++ its2) hH e (by simp) (r.append r2) ?_, rfl, q⟩
  rw [List.length_append]
  omega
end
end L2

set_option Elab.async false
set_option linter.all false
set_option maxRecDepth 100000
set_option maxHeartbeats 4000000
/-! set(xs), xs a tuple of ints, as a value -/
namespace L2
open PySem PySem.Spec PyProof.Rows
section
variable {P : Program} {w : World} {A : Around} {E : Value → Shared → Prop}
theorem sub_tup_set : isSubtype (.type "tuple") (.type "set") = pure false := by rw [isSubtype_type]; kernel_rfl
theorem sub_tup_frz : isSubtype (.type "tuple") (.type "frozenset") = pure false := by rw [isSubtype_type]; kernel_rfl
theorem init_overT {z : Shared} {D l : Addr} {items : Array Value} {ns : List Int} {R : Result → Shared → Prop} (hh : A.handled = none) (hD : z.heap.get? D = some (eS w)) (hl : z.heap.IsTuple l items) (hit : IntsAre items.toList ns) (hb : ns.length + 1 < scanBound) (hne : l ≠ D)
    (q : ∀ (h' : Heap) (tk c : Nat), SetR w h' D (fun j => decide (j ∈ ns)) c → c ≤ ns.length → (∀ b o, b ≠ D → z.heap.get? b = some o → h'.get? b = some o) → R (.ok (.ret .none)) { z with heap := h', toks := tk }) :
    codeAny (model P w) A (.call (.builtin "set.__init__") ⟨[.ref D, .ref l], []⟩) R z := by
  have hn : items.size = ns.length := by
    have e := IntsAre.length hit
    rw [Array.length_toList] at e
    exact e
  have hT : Shared.TypeIs z (.ref D) "set" := ⟨_, hD, rfl⟩
  have lD : D < z.heap.objs.size := Heap.lt_size hD
  obtain ⟨⟨oc, od, oa, os⟩, hol, hcl, nl, hdl⟩ := id hl
  have ll : l < z.heap.objs.size := Heap.lt_size hol
  dsimp only at hcl hdl
  subst hcl hdl
  have no1 := sub_tup_set
  have no2 := sub_tup_frz
  have no3 : (Value.type "tuple" == Value.type "dict") = false := by decide
  refine codeAny_call_builtin F.called_set.init.plain F.entry_set_init (check_set_init_1 hT ?_)
  unfold Builtin.«set.__init__» noKeywords Builtin.Frozenset.updateFrom
  generalize hPI : pyIter = PI
  wp_walk
  subst hPI
  refine wpAny_pyIter_tuple hl ?_
  refine wpAny_bind (wpAny_runValue ?_)
  have free3 : A.in1.in1.handled = none := by simp [hh]
  have apart : l ≠ z.heap.objs.size := Nat.ne_of_lt ll
  have offS : D ∉ [z.heap.objs.size, l] := fun m => by
    rcases List.mem_cons.mp m with y | y
    · exact absurd y (Nat.ne_of_lt lD)
    · exact hne (List.mem_singleton.mp y).symm
  have each : ∀ (i : Nat) (v : Value), items[i]? = some v → ∃ k t, ns[i]? = some k ∧ v = .int k t := fun i v e => by
    have hi : i < ns.length := hn ▸ (Array.getElem?_eq_some_iff.mp e).1
    obtain ⟨t, e2⟩ := IntsAre.int_at hit i v (by rw [Array.getElem?_toList]; exact e)
    exact ⟨ns[i], t, List.getElem?_eq_getElem hi, by rw [e2, List.getD_eq_getElem?_getD, List.getElem?_eq_getElem hi]; rfl⟩
  refine set_update_ints ((Walks.tuple free3 _ l apart items).toS) D offS ns hn hb each (items.size - 0) 0 _ (by omega) (Nat.zero_le _) ?_ ⟨0, Nat.le_refl 0, ?_⟩ ?_
  · exact ⟨⟨_, Heap.get?_push_size _ rfl, rfl, rfl⟩, hl.push _⟩
  · exact setR_new_at (Heap.get?_push_of_some _ hD)
  rintro ⟨h', gens', drawn', tk', os'⟩ c moved hc new
  obtain rfl : gens' = z.gens := moved.gens
  obtain rfl : drawn' = z.drawn := moved.drawn
  obtain rfl : os' = z.os := moved.os
  show wpAny _ _ _ _ _ _
  refine wpAny_pure ?_
  show wpAny _ _ (ret Value.none) _ _ _
  refine wpAny_pure (q h' tk' c new (by omega) fun b o hbD e => ?_)
  have lb : b < z.heap.objs.size := Heap.lt_size e
  refine moved.heap b o (fun m => ?_) (Heap.get?_push_of_some _ e)
  rcases List.mem_cons.mp m with y | y
  · exact hbD y
  · exact absurd (List.mem_singleton.mp y) (Nat.ne_of_lt lb)
theorem set_overT {z : Shared} {l : Addr} {items : Array Value} {ns : List Int} {Q : Value → Shared → Prop} (hh : A.handled = none) (hl : z.heap.IsTuple l items) (hit : IntsAre items.toList ns) (hb : ns.length + 1 < scanBound)
    (q : ∀ (h' : Heap) (tk c : Nat), SetR w h' z.heap.objs.size (fun j => decide (j ∈ ns)) c → c ≤ ns.length → (∀ b o, z.heap.get? b = some o → h'.get? b = some o) → Q (.ref z.heap.objs.size) { z with heap := h', toks := tk }) :
    wpAny (model P w) A (call (.type "set") [.ref l]) Q E z := by
  obtain ⟨c0, t0, mro0⟩ := F.called_set.mro
  have m1 := F.called_set.made
  have m2 := F.called_set.sub
  have m3 := F.called_set.notType
  have m4 := F.called_set.canCreate
  have m5 := F.typeCall_set_1 (.ref l)
  have ll : l < z.heap.objs.size := by
    obtain ⟨o, ho, _⟩ := id hl
    exact Heap.lt_size ho
  refine wpAny_call (codeAny_of_tree ?_)
  show wpAny _ _ (callAny (.type "set") _) _ _ _
  refine wpAny_pure ⟨Code.quiet_builtin _ (by decide +kernel), codeAny_builtin F.entry_type_call ?_⟩
  rw [Around.under_plain (weight_type_call_type "set" [.ref l] []) rfl]
  repeat any_goals first | assumption | wp_step
  have new1 : (z.heap.push (eS w)).get? z.heap.objs.size = some (eS w) := Heap.get?_push_size _ rfl
  refine codeAny_mono (code_set_led1 (.ref l) (E := E) (Q₁ := fun v y => v = .ref z.heap.objs.size ∧ y = { z with heap := z.heap.push (eS w) }) ⟨rfl, rfl⟩) fun r y hr => ?_
  cases r with
  | error e => exact hr
  | ok fl =>
    cases fl with
    | ret v =>
      obtain ⟨rfl, rfl⟩ := hr
      have hT : Shared.TypeIs { z with heap := z.heap.push (eS w) } (.ref z.heap.objs.size) "set" := ⟨_, new1, rfl⟩
      have i1 := F.called_set.init.lookup
      have i2 := F.called_set.init.bind (.ref z.heap.objs.size)
      repeat any_goals first | assumption | wp_step
      refine init_overT (A := A.in1) (z := { z with heap := z.heap.push (eS w) }) (D := z.heap.objs.size) (by simp [hh]) new1 (hl.push _) hit hb (Nat.ne_of_lt ll) fun h' tk c S hc k => ?_
      show wpAny _ _ (pure (some Value.none)) _ _ _
      repeat any_goals first | assumption | wp_step
      exact q h' tk c S hc fun b o e => k b o (Nat.ne_of_lt (Heap.lt_size e)) (Heap.get?_push_of_some _ e)
    | _ => exact hr.elim
end
section
variable {X : Cx}
/-- set(xs) -/
def rSetTI (K : PySem.W.Frag) (w : World) : List V → Hp → VK → Prop := fun xs H Q => ∃ (l : Addr) (ns : List Int), xs = [V.ref l] ∧ SqT K H l (ns.map V.int) ∧ ns.length ≤ 1000 ∧ ∀ p n, n ≤ ns.length → H p = none → Q (.ref p) (upd H p (SetO w p (fun j => decide (j ∈ ns)) n))
theorem cr_setTI (hc : X.calm = true) : CallR X (.type "set") (rSetTI X.K X.w) := by
  intro pins s σ H xs us Q I r h
  obtain ⟨l, ns, rfl, hl, h1, q⟩ := h
  obtain ⟨its, rv, pl, _⟩ := I.tuple hl
  rw [Vals.ref1 r]
  refine set_overT (I.ok.hd hc) pl (ns := ns) (by simpa using rv.ints) (by unfold scanBound; omega) fun h' tk c R hc k => ?_
  exact ⟨.ref _, upd H s.heap.objs.size (SetO X.w s.heap.objs.size (fun j => decide (j ∈ ns)) c), I.laid (t' := tk) k (Nat.le_refl _) (setO_new R), rfl, q _ c hc (I.hok.fresh (Nat.le_refl _))⟩
end
end L2

set_option Elab.async false
set_option linter.all false
set_option maxRecDepth 100000
set_option maxHeartbeats 4000000
/-! t > u, both tuples of ints -/
namespace L2
open PySem PySem.Spec PyProof.Rows
abbrev gtB (ns ms : List Int) : Bool := Ob.lexAt (fun j => decide (ns.getD j 0 = ms.getD j 0)) (fun j => decide (ms.getD j 0 < ns.getD j 0)) (decide (ms.length < ns.length)) 0 (min ns.length ms.length)
def rGtT (K : PySem.W.Frag) : R2 := fun x y H Q => ∃ (t1 t2 : Addr) (ns ms : List Int), (x = .ref t1 ∧ y = .ref t2) ∧ (SqT K H t1 (ns.map V.int) ∧ SqT K H t2 (ms.map V.int)) ∧ Q (.bl (gtB ns ms)) H
theorem op_gtT {X : Cx} (few : X.A.units < cLine) : OpR X (compareOp .Gt) (rGtT X.K) := by
  rintro pins s σ H x y v u Q I rx ry ⟨t1, t2, ns, ms, ⟨rfl, rfl⟩, ⟨h1, h2⟩, q⟩
  cases rx; cases ry
  obtain ⟨us, va, pa, _⟩ := I.tuple h1
  obtain ⟨ws, vb, pb, _⟩ := I.tuple h2
  have item : ∀ {zs : List Value} {ks : List Int}, IntsAre zs ks → ∀ j (h : j < zs.toArray.size), ∃ t, zs.toArray[j] = .int (ks.getD j 0) t := fun ii j h =>
    PyProof.Rows.IntsAre.int_at ii _ _ (by simp at h; simp [h])
  have size : ∀ {zs : List Value} {ks : List Int}, IntsAre zs ks → zs.toArray.size = ks.length := fun ii => by rw [List.size_toArray]; exact ii.length
  have beq : ∀ a b : Int, decide (a = b) = (a == b) := fun a b => by
    by_cases c : a = b
    · subst c; simp
    · rw [decide_eq_false c]; exact (beq_eq_false_iff_ne.mpr c).symm
  have main := Ob.RcOp.tuples_gt (A := X.A) (s := s) (e := fun j => decide (ns.getD j 0 = ms.getD j 0)) (r := fun j => decide (ms.getD j 0 < ns.getD j 0)) pa pb few
    (fun j i1 i2 => by
      obtain ⟨k1, g1⟩ := item va.ints j i1
      obtain ⟨k2, g2⟩ := item vb.ints j i2
      rw [g1, g2, beq]
      exact SeqAt.EqAt.int_int _ _ _ _)
    (fun j i1 i2 _ => by
      obtain ⟨k1, g1⟩ := item va.ints j i1
      obtain ⟨k2, g2⟩ := item vb.ints j i2
      rw [g1, g2]
      exact Ob.RcOp.gt_int _ _ _ _)
  rw [size va.ints, size vb.ints] at main
  exact main X.prog X.w X.xe (EP X pins σ Q) ⟨.bl _, H, I, rfl, q⟩
end L2

set_option Elab.async false
set_option linter.all false
set_option maxRecDepth 100000
set_option maxHeartbeats 4000000
/-! sorted(xs), xs a list of tuples of ints, the first of which has no item -/
namespace PySem.W
open PySem PySem.Calls PyProof.Rows PySem.SeqAt
section
variable {prog : Program} {w : World} {A : Around} {E : Value → Shared → Prop} {s : Shared}
theorem call_tuple_ltZ {Q : Value → Shared → Prop} {l b : Addr} {items items2 : Array Value} {e r : Nat → Bool} (hl : s.heap.IsTuple l items) (hb : s.heap.IsTuple b items2)
    (he : ∀ j (h1 : j < items.size) (h2 : j < items2.size), EqAt A.in1 s items[j] items2[j] (e j)) (hr : ∀ j (h1 : j < items.size) (h2 : j < items2.size), e j = false → RcLt A.in1 s items[j] items2[j] (r j))
    (h : Q (.bool (firstLt e r (decide (items.size < items2.size)) (List.range (min items.size items2.size)))) s) : wpAny (model prog w) A (call (.builtin "tuple.__lt__") [.ref l, .ref b]) Q E s := by
  obtain ⟨⟨cls, dd, data, sl⟩, ho, hc, n, hd⟩ := id hl
  obtain ⟨⟨cls2, dd2, data2, sl2⟩, ho2, hc2, n2, hd2⟩ := id hb
  simp only at hc hd hc2 hd2
  subst hc hd hc2 hd2
  exact call_meets F.slot_tuple_lt ⟨_, ho, rfl⟩ F.entry_tuple_lt (F.args_tuple_lt_2 _ _) (tuple_ltAt l b items items2 n n2 dd dd2 sl sl2 e r) ⟨ho, ho2, he, hr, h⟩
theorem oneLt_tupZ {xs ys : List PyData} {a b : Value} {as bs : List Addr} {Q : Bool → Shared → Prop} (ra : Reads s.heap a (.tuple xs) as) (rb : Reads s.heap b (.tuple ys) bs) (hal : alikeAll xs ys = true)
    (hu : A.units + min (PyData.tuple xs).depth (PyData.tuple ys).depth < cLine) (hq : Q (dataLt (.tuple xs) (.tuple ys)) s) : wpAny (model prog w) A (oneLt' true a b) Q E s := by
  cases ra with
  | @tuple l o vs n _ as₁ h1 h2 h3 h4 =>
    cases rb with
    | @tuple l' o' vs' n' _ bs₁ k1 k2 k3 k4 =>
      have n1 : vs.size = xs.length := by simpa using ReadsAll.length _ _ _ h4
      have n2 : vs'.size = ys.length := by simpa using ReadsAll.length _ _ _ k4
      rw [dataLt_tuple, ← firstLt_toks xs ys hal, ← n1, ← n2] at hq
      rw [oneLt'_eq]
      simp only [if_true]
      refine wpAny_bind (wpAny_cRoomFor (room_here hu) ?_)
      refine wpAny_bind (wpAny_callSpecialIfBound?_slot (T := "tuple") ⟨_, h1, h2⟩ F.slot_tuple_lt (call_tuple_ltZ (e := pairEq xs ys) (r := fun j => dataLt (xs.getD j .none) (ys.getD j .none)) ⟨_, h1, h2, _, h3⟩ ⟨_, k1, k2, _, k3⟩ (fun j j1 j2 => ?_) (fun j j1 j2 hj => ?_) ?_))
      · have := eqAt_alikeAll xs ys A.in1 s vs.toList vs'.toList _ _ h4 k4 hal (room_in hu) j (by simpa using j1) (by simpa using j2)
        simpa using this
      · have := rcLt_alikeAll xs ys A.in1 s vs.toList vs'.toList _ _ h4 k4 hal (room_in hu) j (by simpa using j1) (by simpa using j2) hj
        simpa using this
      · exact wpAny_truthy_bool hq
end
section
variable {M : Model} {A : Around} {E : Value → Shared → Prop} {s : Shared}
def TupAt (h : Heap) (v : Value) (xs : Array Value) : Prop := ∃ a o n, v = .ref a ∧ h.get? a = some o ∧ o.cls = .type "tuple" ∧ o.data = .seq xs n
theorem first_tupZ {v : Value} {xs : Array Value} {Q : Option Value → Shared → Prop} (t : TupAt s.heap v xs) (h : Q xs[0]? s) : wpAny M A (firstOfTuple' v) Q E s := by
  obtain ⟨a, o, n, rfl, ho, hc, hd⟩ := t
  rw [kas_first_eq]
  refine wpAny_bind (Looks.here (show Looks M s.heap (typeOf (.ref a)) o.cls from (Looks.ld ho).andThen .now) ?_)
  rw [hc, if_neg (by first | decide | simp)]
  exact wpAny_bind (listItems_at ho hd (wpAny_pure h))
theorem firsts_anyZ : ∀ (vs : List Value), (∀ v ∈ vs, ∃ xs, TupAt s.heap v xs) → ∃ rs : List (Option Value), ∀ {Q : List (Option Value) → Shared → Prop}, Q rs s → wpAny M A (vs.mapM firstOfTuple') Q E s
  | [], _ => ⟨[], fun h => by rw [List.mapM_nil]; exact wpAny_pure h⟩
  | v :: vs, t => by
    obtain ⟨xs, hx⟩ := t v (.head _)
    obtain ⟨rs, hr⟩ := firsts_anyZ vs fun v hv => t v (.tail _ hv)
    refine ⟨xs[0]? :: rs, fun {Q} h => ?_⟩
    rw [List.mapM_cons]
    exact wpAny_bind (first_tupZ hx (wpAny_bind (hr (Q := fun bs s' => wpAny M A (pure (xs[0]? :: bs)) Q E s') (wpAny_pure h))))
theorem kind_tupZ {v₁ : Value} {rest : List Value} {Q : SortKind → Shared → Prop} (h1 : TupAt s.heap v₁ #[]) (hT : ∀ v ∈ rest, ∃ xs, TupAt s.heap v xs) (h : Q oneType' s) : wpAny M A (keyKind' (v₁ :: rest).toArray) Q E s := by
  obtain ⟨rs, hr⟩ := firsts_anyZ (M := M) (A := A) (E := E) rest hT
  rw [keyKind'_eq, List.mapM_toArray, map_eq_pure_bind]
  refine wpAny_bind (wpAny_bind ?_)
  rw [List.mapM_cons]
  refine wpAny_bind (first_tupZ h1 (wpAny_bind (hr ?_)))
  refine wpAny_pure (wpAny_pure ?_)
  rw [if_neg (by simp), if_neg (by simp)]
  rw [oneTypeOnly'_eq, List.mapM_toArray, map_eq_pure_bind]
  have hty : ∀ v ∈ v₁ :: rest, ∀ (Q' : Value → Shared → Prop), Q' (.type "tuple") s → wpAny M A (typeOf v) Q' E s := fun v hv Q' hq => by
    have ht : ∃ xs, TupAt s.heap v xs := by
      rcases List.mem_cons.mp hv with rfl | hv
      · exact ⟨_, h1⟩
      · exact hT v hv
    obtain ⟨xs, a, o, n, rfl, ho, hc, hd⟩ := ht
    refine Looks.here (show Looks M s.heap (typeOf (.ref a)) o.cls from (Looks.ld ho).andThen .now) ?_
    rw [hc]
    exact hq
  refine wpAny_bind (wpAny_bind (wpAny_bind (kas_mapM (r := .type "tuple") _ hty (wpAny_pure ?_))))
  have hall : ((List.map (fun _ => Value.type "tuple") (v₁ :: rest)).toArray.all fun x => x == Value.type "tuple") = true := by
    simp only [List.all_toArray, List.all_map, List.all_eq_true]
    intro _ _
    rfl
  have h0 : (List.map (fun _ => Value.type "tuple") (v₁ :: rest)).toArray[0]? = some (Value.type "tuple") := by simp
  rw [h0]
  simp only [hall, if_true]
  exact wpAny_pure (wpAny_pure h)
end
section
variable {prog : Program} {w : World} {A : Around} {E : Value → Shared → Prop} {s : Shared}
theorem reads_tupZ {v : Value} {r : List PyData} {as : List Addr} (h : Reads s.heap v (.tuple r) as) : ∃ xs, TupAt s.heap v xs := by
  cases h with
  | @tuple l o vs n _ as₁ h1 h2 h3 h4 => exact ⟨_, l, o, n, rfl, h1, h2, h3⟩
theorem reads_tup0Z {v : Value} {as : List Addr} (h : Reads s.heap v (.tuple []) as) : TupAt s.heap v #[] := by
  cases h with
  | @tuple l o vs n _ as₁ h1 h2 h3 h4 =>
    have n1 : vs.size = 0 := by simpa using ReadsAll.length _ _ _ h4
    obtain rfl : vs = #[] := Array.eq_empty_of_size_eq_zero n1
    exact ⟨l, o, n, rfl, h1, h2, h3⟩
theorem SortsAt.tupZ {vs : List Value} {ds : List PyData} (e : EachIs (fun v d => ∃ as, Reads s.heap v d as) vs (.tuple [] :: ds)) (hal : AllAlike (.tuple [] :: ds)) (ht : ∀ d, d ∈ ds → ∃ r, d = .tuple r) (hu : ∀ d, d ∈ PyData.tuple [] :: ds → A.units + d.depth < cLine) :
    SortsAt prog w A s (dataKind s.heap (.tuple [] :: ds)) vs := by
  have ht2 : ∀ d, d ∈ PyData.tuple [] :: ds → ∃ r, d = .tuple r := fun d hd => by
    rcases List.mem_cons.mp hd with rfl | hd
    · exact ⟨_, rfl⟩
    · exact ht d hd
  refine ⟨fun v hv => ?_, oneType', ?_, fun h2 E Q hq => ?_⟩
  · obtain ⟨d, hd, as, r⟩ := e.left v hv
    exact ⟨_, dataKind_some hal hd r⟩
  · intro E x y a b Q ha hb hq
    obtain ⟨d, as, hd, ra, rfl⟩ := dataKind_inv ha
    obtain ⟨d', as', hd', rb, rfl⟩ := dataKind_inv hb
    have hdd := hal d hd d' hd'
    have hroom : A.units + min d.depth d'.depth < cLine := Nat.lt_of_le_of_lt (Nat.add_le_add_left (Nat.min_le_left _ _) _) (hu d hd)
    obtain ⟨r1, rfl⟩ := ht2 d hd
    obtain ⟨r2, rfl⟩ := ht2 d' hd'
    rw [keyLt'_oneType]
    exact oneLt_tupZ ra rb (by simpa [alike] using hdd) hroom hq
  · cases e with
    | @cons v₁ _ vs _ r1 r2 =>
      obtain ⟨as, r1⟩ := r1
      refine kind_tupZ (reads_tup0Z r1) (fun v hv => ?_) hq
      obtain ⟨d, hd, as, r⟩ := r2.left v hv
      obtain ⟨r', rfl⟩ := ht d hd
      exact reads_tupZ r
end
end PySem.W
namespace PySem.W
open PySem PySem.Calls PyProof.Rows PySem.SeqAt
section
variable {prog : Program} {w : World} {A : Around} {E : Value → Shared → Prop} {s : Shared} {β : Type} {R : Value → β → Prop} {enc : β → PyData} {b0 : β} {bs : List β} {vs : List Value}
theorem sorted_tupZ {l : Addr} {Q : Value → Shared → Prop} (h0 : enc b0 = .tuple []) (ht : ∀ b, b ∈ bs → ∃ r, enc b = .tuple r) (hl : s.heap.IsList l vs.toArray) (e : EachIs R vs (b0 :: bs)) (er : EachIs (fun v b => ∃ as, Reads s.heap v (enc b) as) vs (b0 :: bs)) (hal : AllAlike ((b0 :: bs).map enc)) (hL : (b0 :: bs).length ≤ sizeLine)
    (hu : ∀ b, b ∈ b0 :: bs → A.units + 2 + (enc b).depth < cLine) (h : ∀ out, out.length = (b0 :: bs).length → EachIs R out ((b0 :: bs).mergeSort (dataLe false enc)) → Q (.ref (s.heap.objs.size + 1)) { s with heap := sortedAll s.heap vs (List.toArray out) }) :
    wpAny (model prog w) A (call (.builtin "sorted") [.ref l]) Q E s := by
  have er' : EachIs (fun v b => ∃ as, Reads (sortingHeap (copyHeap s.heap vs) (s.heap.objs.size + 1) vs) v (enc b) as) vs (b0 :: bs) := er.mono fun _ _ ⟨as, r⟩ => ⟨as, PyProof.Rows.Reads.keeps (fun _ _ => sorting_copy_old) r⟩
  have em := each_map (R := fun v d => ∃ as, Reads (sortingHeap (copyHeap s.heap vs) (s.heap.objs.size + 1) vs) v d as) enc er'
  have bm := bound_map (A := A.in1.in1) (enc := enc) (bs := b0 :: bs) hu
  have hal2 := hal
  rw [List.map_cons, h0] at em bm hal2
  refine sorted_vals (κ := dataKind (sortingHeap (copyHeap s.heap vs) (s.heap.objs.size + 1) vs) ((b0 :: bs).map enc)) hl ?_ (by rw [e.length]; exact hL) (h _ (by rw [sortVals_length false rfl]; exact e.length) (sortVals_data false e er' hal))
  rw [List.map_cons, h0]
  refine SortsAt.tupZ (s := { s with heap := sortingHeap (copyHeap s.heap vs) (s.heap.objs.size + 1) vs }) em hal2 (fun d hd => ?_) bm
  obtain ⟨b, hb, rfl⟩ := List.mem_map.mp hd
  exact ht b hb
end
end PySem.W
namespace L2
open PySem PySem.Spec PyProof.Rows PySem.W
section
variable {X : Cx} {pins : List (Addr × Obj)} {σ : St} {H : Hp} {s : Shared}
/-- sorted(xs): the items ascending as tuples are -/
def rSortT0 (K : PySem.W.Frag) : List V → Hp → VK → Prop := fun vs H Q => ∃ (a : Addr) (xs : List V) (bs : List (List Int)), vs = [V.ref a] ∧ SqL K H a xs ∧ Paired (TupI K H) xs ([] :: bs) ∧
  ∀ (ys : List V) (p : Addr), Paired (TupI K H) ys (([] :: bs).mergeSort fun p q => decide (p ≤ q)) → H p = none → Q (.ref p) (upd H p (.lst ys))
theorem cr_sortT0 (hu : X.A.units + 65 < cLine) : CallR X (.builtin "sorted") (rSortT0 X.K) := by
  intro pins s σ H vs us Q I r h
  obtain ⟨a, xs, bs, rfl, hs, hp, q⟩ := h
  obtain ⟨its, rv, hl, hz⟩ := I.list hs
  rw [Vals.ref1 r]
  have e0 : EachIs (TupV X.K H) its ([] :: bs) := tupV_of hp rv
  have hlen : ([] :: bs).length = xs.length := (Paired.length hp).symm
  refine sorted_tupZ (A := X.A) (R := TupV X.K H) (enc := tupE) rfl (fun b _ => ⟨_, rfl⟩) hl.isList e0 (e0.mono fun u ns h => tupV_reads I h) (AllAlike.of fun b b' => by simp [alike, alike_ints]) (by rw [hlen]; exact hz) (fun b _ => ?_) fun out ho eo => ?_
  · have : (tupE b).depth ≤ 1 := by simp [PyData.depth, depth_ints]
    omega
  · rw [tupE_le] at eo
    obtain ⟨e1, e2⟩ := tupV_to eo
    obtain ⟨ep, he'⟩ := PyProof.Rows.sortedAll_at s.heap its out.toArray
    have hz2 : (out.map bkV).length ≤ sizeLine := by
      rw [List.length_map, ho, hlen]
      exact hz
    exact ⟨.ref _, upd H (s.heap.objs.size + 1) (.lst (out.map bkV)), I.laid (t' := s.toks) (fun _ _ => PyProof.Rows.sortedAll_old) (Nat.le_succ _) ⟨hz2, out, ep, bkV_vals e2, he'⟩, rfl, q _ _ e1 (I.hok.fresh (Nat.le_succ _))⟩
end
end L2

set_option Elab.async false
set_option linter.all false
set_option maxRecDepth 100000
set_option maxHeartbeats 4000000
/-! o.m(e, .., k = v, ..); an expression read in one of two ways -/
namespace L2
open PySem PySem.Spec PyProof.Rows PySem.W
/-- a method with keywords -/
def tMethN (C : Addr) (m : Str) (n j : Nat) (sp : Sp) (gV : List V → List V → List V) (E : XK) (ta : TE) (t tk : TA) : TE := fun σ H Q => ta σ H fun x H1 => ∃ a dx fs, x = .ref a ∧ H1 a = some (.ins C dx fs) ∧ fs.lookup m = none ∧
  t σ H1 fun vs H2 => tk σ H2 fun zs H3 => vs.length = n ∧ zs.length = j ∧ sp (gV (x :: vs) zs) H3 Q E
section
variable {X : Cx} {CX : CXT} {k n : Nat} {f C : Addr} {fd : FuncData} {ps ks : List Str} {sp : Sp} {E : XK} {m : Str} {pos apos : Pos} {e o : Expr} {es : List Expr} {kws : List Keyword} {ta : TE} {t tk : TA} {g : List Value → List Value → List Value} {gV : List V → List V → List V}
theorem pe_methN {pl : Sem Bool} (he : PE X o ta) (c : Cls X.K C) (hm : Meth X.K C m f) (F : FnOk X.prog X.w X.K X.mg X.base CX k f fd ps sp) (hr : Room k X.A) (hb : KBn X.K fd ps (n + 1) ks g gV) (hx : Passes CX X E) (ha : PA X (e :: es) t) (hkw : PK X kws tk)
    (hall : (backToKw pos (keywordEach kws X.env)).all (·.1.isSome) = true := by rfl) (hks : (backToKw pos (keywordEach kws X.env)).filterMap (·.1) = ks := by rfl)
    (hst : starEach (e :: es) X.env = (false, eval e X.env) :: starEach es X.env := by rfl) (hpl : ((backTo pos (starEach (e :: es) X.env)).any (·.1) || (backToKw pos (keywordEach kws X.env)).any (·.1.isNone)) = false := by rfl)
    (ht : eval (.Call (.Attribute o m apos) (e :: es) kws pos) X.env = (do
      let ov ← eval o X.env
      standAt apos.atName
      let (f, first) ← holding [ov] (getMethod ov m pl)
      callWith pos f first (backTo pos (starEach (e :: es) X.env)) (backToKw pos (keywordEach kws X.env))) := by rfl) :
    PE X (.Call (.Attribute o m apos) (e :: es) kws pos) (tMethN C m n ks.length sp gV E ta t tk) := by
  refine ⟨fun pins s σ H Q I h => ?_⟩
  refine PySem.W.methodCall_KW (pl := pl) (thn (he.run pins s σ H _ I h) fun u s1 ⟨x, H1, I1, rx, a, dx, fs, ex, ea, l, q⟩ => ?_) ht
  subst ex
  obtain rfl : u = Value.ref a := rx
  refine getmeth_ok I1 ea c hm l ?_
  refine PySem.W.callWith_KW (first := [.ref a]) (h₀ := X.base) I.ok.mod.kin hm.kp hall (thn (ha.run pos pins s1 σ H1 _ I1 q) fun us s2 ⟨vs, H2, I2, r, q2⟩ => ?_) hpl hst
  refine thn (hkw.run pos pins s2 σ H2 _ I2 q2) fun ws s3 ⟨zs, H3, I3, rz, l1, l2, q3⟩ => ⟨I3.kIn, ?_⟩
  rw [hks]
  exact run_fnN (us := .ref a :: us) (vs := .ref a :: vs) F hr hb hx I3 (.cons rfl r) rz (by rw [List.length_cons, l1]) l2 q3
/-- an expression that may be read in two ways -/
theorem pe_two {a : Expr} {t1 t2 : TE} (h1 : PE X a t1) (h2 : PE X a t2) : PE X a (fun σ H Q => t1 σ H Q ∨ t2 σ H Q) :=
  ⟨fun pins s σ H Q I h => h.elim (h1.run pins s σ H Q I) (h2.run pins s σ H Q I)⟩
end
end L2

set_option Elab.async false
set_option linter.all false
set_option maxRecDepth 100000
set_option maxHeartbeats 4000000
/-! zip over two tuples, as a walk; != of own objects of two classes -/
namespace L2
open PySem PySem.Spec PyProof.Rows
theorem walk_zipT {K : PySem.W.Frag} {a b : Addr} {xs ys : List V} {n : Nat} (hn : n = min xs.length ys.length) : Walk (RZ.ItzT K a b) n (fun H => SqT K H a xs ∧ SqT K H b ys) (YPair (fun i => xs[i]?) (fun i => ys[i]?)) := by
  subst hn
  refine ⟨fun i _ hi q => ?_, fun _ q => ⟨xs, ys, q.1, q.2, by omega⟩, fun i H v H' _ q y => ?_⟩
  · have h1 : i < xs.length := by omega
    have h2 : i < ys.length := by omega
    exact ⟨xs, ys, xs[i], ys[i], q.1, q.2, by simp [h1], by simp [h2]⟩
  · obtain ⟨T, x, z, h1, h2, h3, h4, h5⟩ := y
    exact ⟨T, x, z, h1, h2, h3, h4 xs q.1, h5 ys q.2⟩
end L2
namespace Tw
open PySem PySem.Spec PyProof.Rows L2
open PySem.W (InstAt looks_findIn looks_subIn ifBound_K cmp_K)
section
variable {X : Cx} {CX : CXT} {k : Nat} {f C D : Addr} {fd : FuncData} {ps : List Str} {sp : Sp} {E : XK}
/-- != where the other one is an object of another class -/
def rNeD (C D : Addr) (sp : Sp) (E : XK) : R2 := fun x y H Q =>
  ∃ a dx fs b dy gs, x = .ref a ∧ H a = some (.ins C dx fs) ∧ y = .ref b ∧ H b = some (.ins D dy gs) ∧ sp [.ref a, y] H (fun v H' => ∃ r, v = .bl r ∧ Q (.bl (!r)) H') E
theorem op_ne_two (c : EqC X.K C f) (hd : PySem.W.notFirst X.K C (.ref D) = true) (F : FnOk X.prog X.w X.K X.mg X.base CX k f fd ps sp) (hr : Room (k + 1) X.A) (hb : Binds X.K fd ps []) (hx : Passes CX X E) : OpR X (compareOp .NotEq) (rNeD C D sp E) := by
  intro pins s σ H x y v u Q I rx ry ⟨a, dx, fs, b, dy, gs, ex, ha, ey, hb2, q⟩
  subst ex
  subst ey
  obtain rfl : v = Value.ref a := rx
  obtain rfl : u = Value.ref b := ry
  obtain ⟨mA, O, rr, _, _, _⟩ := ins_get I.hok ha
  obtain ⟨od, J, hl⟩ := O.look
  obtain ⟨mB, OB, rrB, _, _, _⟩ := ins_get I.hok hb2
  obtain ⟨odB, JB, hlB⟩ := OB.look
  obtain ⟨m0, hF⟩ := I.fr
  show wpAny _ _ (richCompare .NotEq (.ref a) (.ref b)) _ _ _
  refine ne_K (Room.units0 hr.in1) hr.units0 hF I.ok.mod.kin J JB.type hd c (thn (run_sub F (Sub.in1 ⟨hr, rfl⟩) hb hx I (.cons (relR a) (.cons (relR b) .nil)) q) fun r s' ⟨z, H', I', rz, b2, ez, q'⟩ => ?_)
  subst ez
  exact ⟨b2, rz, _, H', I', relB (!b2), q'⟩
end
end Tw

set_option Elab.async false
set_option linter.all false
set_option maxRecDepth 100000
set_option maxHeartbeats 2000000
/-! own rules: xs.count(k), t.count(k) (whole numbers); sum(d.values()) -/
namespace L2
open PySem PySem.Spec PyProof.Rows L2
theorem plain_ints : ∀ ns : List Int, PyData.plainAll (ns.map PyData.int) = true
  | [] => rfl
  | n :: ns => by
    simp only [List.map_cons, PyData.plainAll, plain_ints ns]
    rfl
theorem count_ints (k : Int) : ∀ ns : List Int, (ns.map PyData.int).countP (fun y => PyData.eqv y (.int k)) = ns.count k
  | [] => rfl
  | n :: ns => by
    rw [List.map_cons, List.countP_cons, count_ints k ns, List.count_cons]
    have e : PyData.eqv (.int n) (.int k) = (n == k) := rfl
    rw [e]
theorem dpAll_ints (K : PySem.W.Frag) (H : Hp) : ∀ ns : List Int, DpAll K H (ns.map V.int) (ns.map PyData.int)
  | [] => .nil
  | n :: ns => .cons (.int n) (dpAll_ints K H ns)
section
variable {X : Cx}
def rCountL (K : PySem.W.Frag) : V → List V → Hp → VK → Prop := fun x vs H Q => ∃ (a : Addr) (ns : List Int) (k : Int), x = .ref a ∧ vs = [.int k] ∧ SqL K H a (ns.map V.int) ∧ Q (.int (ns.count k : Nat)) H
def rCountT (K : PySem.W.Frag) : V → List V → Hp → VK → Prop := fun x vs H Q => ∃ (a : Addr) (ns : List Int) (k : Int), x = .ref a ∧ vs = [.int k] ∧ SqT K H a (ns.map V.int) ∧ Q (.int (ns.count k : Nat)) H
theorem mt_countL (hu : X.A.units + 65 < cLine) : MtR X "list.count" (rCountL X.K) := by
  intro pins s σ H x xs v us Q I rx rxs h
  obtain ⟨a, ns, k, rfl, rfl, hl, q⟩ := h
  cases rx
  cases rxs with
  | cons ry rt =>
    rename_i uy ut
    cases rt
    obtain ⟨its, rv, pl, hlen⟩ := I.list hl
    obtain ⟨as, h4⟩ := Dp.readsAll I (ns.map PyData.int) _ its (dpAll_ints _ _ ns) rv
    obtain ⟨bs, r1⟩ := Dp.reads I (.int k) _ uy (.int k) ry
    refine PySem.SeqAt.count_list_data (xs := ns.map PyData.int) (d := .int k) pl.isList h4 r1 (plain_ints ns) rfl (Nat.lt_of_le_of_lt (Nat.add_le_add_left (Nat.min_le_right _ _) _) (by simp only [PyData.depth]; omega)) ?_
    rw [count_ints]
    exact ⟨.int _, H, I.tok _, ⟨_, rfl⟩, q⟩
theorem mt_countT (hu : X.A.units + 65 < cLine) : MtR X "tuple.count" (rCountT X.K) := by
  intro pins s σ H x xs v us Q I rx rxs h
  obtain ⟨a, ns, k, rfl, rfl, hl, q⟩ := h
  cases rx
  cases rxs with
  | cons ry rt =>
    rename_i uy ut
    cases rt
    obtain ⟨its, rv, pl, hlen⟩ := I.tuple hl
    obtain ⟨as, h4⟩ := Dp.readsAll I (ns.map PyData.int) _ its (dpAll_ints _ _ ns) rv
    obtain ⟨bs, r1⟩ := Dp.reads I (.int k) _ uy (.int k) ry
    refine PySem.SeqAt.count_tuple_data (xs := ns.map PyData.int) (d := .int k) pl h4 r1 (plain_ints ns) rfl (Nat.lt_of_le_of_lt (Nat.add_le_add_left (Nat.min_le_right _ _) _) (by simp only [PyData.depth]; omega)) ?_
    rw [count_ints]
    exact ⟨.int _, H, I.tok _, ⟨_, rfl⟩, q⟩
theorem preSum_list : ∀ (is : List Int) (n : Nat), preSum (fun i => is.getD i 0) n = (is.take n).sum := by
  intro is n
  induction n with
  | zero => rfl
  | succ n ih =>
    rw [preSum, ih]
    by_cases h : n < is.length
    · rw [← List.take_append_getElem h, List.sum_append, List.getD_eq_getElem?_getD, List.getElem?_eq_getElem h]
      simp
    · rw [List.take_of_length_le (by omega), List.take_of_length_le (by omega), List.getD_eq_getElem?_getD, List.getElem?_eq_none (by omega)]
      simp
/-- sum(o.values()), a dict with int values -/
def tSumVals (td : TE) : TE := fun σ H Q => td σ H fun x H1 => ∃ (a : Addr) (kvs : List (Key × V)) (is : List Int), x = V.ref a ∧ H1 a = some (.dK kvs) ∧ kvs.map (·.2) = is.map V.int ∧ Q (.int is.sum) H1
variable {o : Expr} {p pos apos mpos : Pos} {td : TE}
theorem pe_sumVals (hc : X.calm = true) (hg : Gl X "sum") (hm : X.mg "sum" = none) (hd : PE X o td) (hbase : attributeBase o "values" X.env (eval o X.env) = eval o X.env := by rfl) (hline : (apos.endLine == mpos.line) = true := by rfl)
    (hse : starEach [Expr.Call (.Attribute o "values" apos) [] [] mpos] X.env = [(false, eval (Expr.Call (.Attribute o "values" apos) [] [] mpos) X.env)] := by rfl) :
    PE X (.Call (.Name "sum" p) [.Call (.Attribute o "values" apos) [] [] mpos] [] pos) (tSumVals td) := by
  refine ⟨fun pins s σ H Q I h => ?_⟩
  refine wpAny_Call_Name_kw (ld_blt I hg hm (u := .builtin "sum") (by first | rfl | decide +kernel) ?_ (by first | decide +kernel | decide) (by first | decide +kernel | decide))
  rw [hse]
  refine PySem.callWith_builtin1 (wpAny_Call_method0_late hbase hline (thn (hd.run pins s σ H _ I h) fun v s1 ⟨x, H1, I1, r1, a, kvs, is, ex, ha, hv, q⟩ => ?_))
  subst ex
  obtain rfl : v = Value.ref a := r1
  obtain ⟨_, hsys, vs, rel, dof⟩ := dk_of I1.hok ha
  obtain ⟨ep, dat⟩ := dof.dictAt
  have dat' := dat
  obtain ⟨ob, es, ho, ex, hdat, hko, hpr, hnd⟩ := dat'
  refine ⟨"dict", "dict.values", F.plainAttrs_dict, F.slot_dict_values, F.type_dict_values, ⟨ob, ho, ex.1⟩, fun b e => ?_, Calls.callWith_builtin rfl (PySem.evalArgs_none ?_)⟩
  · cases e
    exact ⟨ob, ho, ex.2.1⟩
  refine call_meetsIn F.slot_dict_values ⟨ob, ho, ex.1⟩ F.entry_dict_values (F.args_dict_values_1 _) (meets_dict_values (mixKind X.prog X.w) a hsys) ⟨⟨vs, dof⟩, ?_⟩
  have k1 : ∀ b u, s1.heap.get? b = some u → (s1.heap.push { cls := .type "dict_values", data := .fields #[.ref a] }).get? b = some u := fun b u e => Heap.get?_push_of_some _ e
  have dat1 : (s1.heap.push { cls := .type "dict_values", data := .fields #[.ref a] }).DictAt (mixKind X.prog X.w) a vs ep := dat.keep k1
  have hlv : vs.length = is.length := by
    have e1 := congrArg List.length hv
    rw [List.length_map, List.length_map] at e1
    rw [← e1]
    exact (KV.length rel).symm
  have hval : ∀ (i : Nat) (v : Value), (∃ k, vs[i]? = some (k, v)) → ∃ t, v = Value.int (is.getD i 0) t := fun i v ⟨k, hk⟩ => by
    obtain ⟨x, h1, h2⟩ := KV.at' rel hk
    have e1 : (kvs.map (·.2))[i]? = some x := by rw [List.getElem?_map, h1] <;> rfl
    rw [hv, List.getElem?_map] at e1
    obtain ⟨j, hj, e2⟩ := Option.map_eq_some_iff.mp e1
    subst e2
    obtain ⟨t, e3⟩ := h2
    refine ⟨t, ?_⟩
    rw [e3, List.getD_eq_getElem?_getD, hj] <;> rfl
  refine call_sum_walkG (wpAny_pyIter_values (v := s1.heap.objs.size) (d := a) ⟨_, Heap.get?_push_size _ rfl, rfl, rfl⟩ dat1 ?_)
  have hlt : a < s1.heap.objs.size := Heap.lt_size ho
  have hsz : (s1.heap.push { cls := .type "dict_values", data := .fields #[.ref a] }).objs.size = s1.heap.objs.size + 1 := Heap.size_push _ _
  refine ⟨_, _, _, _, _, _, fun i => is.getD i 0, rfl, Walks.dictValues (knd := mixKind X.prog X.w) (A := X.A.in1) (I.ok.hd hc) (s1.heap.push { cls := .type "dict_values", data := .fields #[.ref a] }).objs.size a (by rw [hsz]; exact Nat.ne_of_lt (Nat.lt_succ_of_lt hlt)) vs ep,
    ⟨⟨_, Heap.get?_push_size _ rfl, rfl, rfl⟩, dat1.keep fun b u e => Heap.get?_push_of_some _ e⟩, fun b hb => ?_, hval, fun h' tk t' hk => ?_⟩
  · show b < ((s1.heap.push _).push _).objs.size
    rw [Heap.size_push, Heap.size_push]
    rw [hsz] at hb
    rcases List.mem_cons.mp hb with e | hb
    · rw [e]
      exact Nat.lt_succ_self _
    · have e : b = a := List.mem_singleton.mp hb
      rw [e]
      exact Nat.lt_succ_of_lt (Nat.lt_succ_of_lt hlt)
  · rw [preSum_list, hlv, List.take_length]
    refine ⟨.int _, H1, I1.kept (t' := tk) fun b u e => hk b u (fun hmem => ?_) (Heap.get?_push_of_some _ (k1 b u e)), ⟨t', rfl⟩, q⟩
    have e1 : b = (s1.heap.push { cls := .type "dict_values", data := .fields #[.ref a] }).objs.size := List.mem_singleton.mp hmem
    have e2 := Heap.lt_size e
    rw [hsz] at e1
    rw [e1] at e2
    exact absurd e2 (Nat.not_lt.mpr (Nat.le_succ _))
end
/-- a dict by a comprehension, over any walk -/
theorem dc_it {J : It} {n : Nat} {G : Hp → Prop} {Y : Nat → Hp → V → Hp → Prop} (w : Walk J n G Y) {g : TG} {tt : TT} {tk tv : TE} {vs : List Nat} {σ : St} {H1 : Hp} {D : Addr} {Qd : Hp → Prop} (Pv : Nat → Hp → Prop) (h0 : Pv 0 (upd H1 D (.dK []))) (hG : ∀ i H, i ≤ n → Pv i H → G H)
    (hs : ∀ i x H H', i < n → Pv i H → Y i H x H' → g x (wipe σ vs) H' fun σ2 H2 => wipe σ2 vs = wipe σ vs ∧ tt σ2 H2 fun b H3 =>
      if b = true then tk σ2 H3 fun y H4 => tv σ2 H4 fun z H5 => ∃ kvs k, y = kV k ∧ H5 D = some (.dK kvs) ∧ kvs.length < sizeLine ∧ Pv (i + 1) (upd H5 D (.dK (putK kvs k z))) else Pv (i + 1) H3) (hd : ∀ H, Pv n H → Qd H) :
    ∃ W : Nat → Nat → Hp → Prop, (∃ m, W 0 m (upd H1 D (.dK []))) ∧ ∀ i m H, W i m H →
      (J.stop i H ∧ Qd H) ∨ (J.go i H ∧ ∃ Nx : Hp → Prop, (∀ H', Nx H' → ∃ m', m' < m ∧ W (i + 1) m' H') ∧ ∀ x H', J.yld i H x H' → g x (wipe σ vs) H' fun σ2 H2 => wipe σ2 vs = wipe σ vs ∧ tt σ2 H2 fun b H3 =>
        if b = true then tk σ2 H3 fun y H4 => tv σ2 H4 fun z H5 => ∃ kvs k, y = kV k ∧ H5 D = some (.dK kvs) ∧ kvs.length < sizeLine ∧ Nx (upd H5 D (.dK (putK kvs k z))) else Nx H3) := by
  refine ⟨fun i m H => m = n - i ∧ i ≤ n ∧ Pv i H, ⟨n, by simp, Nat.zero_le _, h0⟩, ?_⟩
  rintro i m H ⟨rfl, hi, p⟩
  have q := hG i H hi p
  by_cases hlt : i < n
  · refine .inr ⟨w.goes i H hlt q, Pv (i + 1), fun H' p' => ⟨n - (i + 1), by omega, rfl, hlt, p'⟩, fun x H' y => hs i x H H' hlt p (w.yields i H x H' hlt q y)⟩
  · have e : i = n := by omega
    subst e
    exact .inl ⟨w.stops H q, hd H p⟩
/-- what stays while a thing is locked stays behind -/
theorem same_lock {H H' : Hp} {d : Addr} {u v : HO} (h : H d = some u) (s : Same (upd H d v) H') : Same H (upd H' d u) := fun b o e => by
  by_cases hb : b = d
  · subst hb
    rw [upd_same, ← h, e]
  · rw [upd_ne hb]
    exact s b o (by rw [upd_ne hb]; exact e)
theorem ite_b {b c : Bool} {A B : Prop} (h : b = c) (k : if c = true then A else B) : if b = true then A else B := h ▸ k
/-- set(xs), xs a list or a tuple of whole numbers -/
def rSetSq (K : PySem.W.Frag) (w : World) : List V → Hp → VK → Prop := fun xs H Q => ∃ (l : Addr) (ns : List Int), xs = [V.ref l] ∧ (SqL K H l (ns.map V.int) ∨ SqT K H l (ns.map V.int)) ∧ ns.length ≤ 1000 ∧ ∀ p n, n ≤ ns.length → H p = none → Q (.ref p) (upd H p (SetO w p (fun j => decide (j ∈ ns)) n))
theorem cr_setSq {X : Cx} (hc : X.calm = true) : CallR X (.type "set") (rSetSq X.K X.w) := by
  intro pins s σ H vs us Q I rv ⟨l, ns, e, h, hl, q⟩
  rcases h with h | h
  · exact cr_setLI hc pins s σ H vs us Q I rv ⟨l, ns, e, h, hl, q⟩
  · exact cr_setTI hc pins s σ H vs us Q I rv ⟨l, ns, e, h, hl, q⟩
end L2

set_option Elab.async false
set_option linter.all false
set_option maxRecDepth 100000
set_option maxHeartbeats 2000000
/-! own rules: tuples of which it is known that they have no dict of their own: their methods -/
namespace L2
open PySem PySem.Spec PyProof.Rows L2
/-- a tuple that was made by tuple(..), with the object that it is -/
def TupF (H : Hp) (a : Addr) (xs : List V) : Prop := ∃ o : Obj, H a = some (.frz o (.tup xs)) ∧ o.dict = none
theorem TupF.same {H H' : Hp} {a : Addr} {xs : List V} (h : TupF H a xs) (s : Same H H') : TupF H' a xs := let ⟨o, e, d⟩ := h; ⟨o, s _ _ e, d⟩
theorem TupF.sq {K : PySem.W.Frag} {H : Hp} {a : Addr} {xs : List V} (h : TupF H a xs) : SqT K H a xs := let ⟨o, e, _⟩ := h; .inl (.inr ⟨o, e⟩)
section
variable {X : Cx}
/-- tuple(xs) of a list; of such a tuple itself -/
def rTupF (K : PySem.W.Frag) : List V → Hp → VK → Prop := fun xs H Q => ∃ p ys, xs = [V.ref p] ∧ ((SqL K H p ys ∧ ∀ l o, H l = none → o.dict = none → Q (.ref l) (upd H l (.frz o (.tup ys)))) ∨ (SqT K H p ys ∧ Q (.ref p) H))
theorem call_tupF : CallR X (.type "tuple") (rTupF X.K) := by
  intro pins s σ H xs us Q I r h
  obtain ⟨p, ys, rfl, h⟩ := h
  rcases h with ⟨hq, q⟩ | ⟨hq, q⟩
  · obtain ⟨u, rfl, rx⟩ := vals1 r
    cases rx
    obtain ⟨its, r', pl, hz⟩ := I.list hq
    have hlen := r'.length
    refine call_tuple_list pl.isList (fun h' kp => ?_) (by simp only [List.size_toArray] <;> omega)
    have I1 : Inv X pins σ H { s with heap := h' } := I.kept (t' := s.toks) kp
    have I2 : Inv X pins σ (upd H h'.objs.size (.frz { cls := .type "tuple", data := .seq its.toArray } (.tup ys))) { s with heap := h'.push { cls := .type "tuple", data := .seq its.toArray } } :=
      I1.laid (t' := s.toks) (fun b o e => Heap.get?_push_of_some _ e) (Nat.le_refl _) (show ObjOk X.prog X.w _ _ _ (.frz _ (.tup ys)) from ⟨Heap.get?_push_size _ rfl, hz, its, r', IsTup.new _ _⟩)
    exact ⟨.ref h'.objs.size, _, I2, rfl, q _ _ (I1.hok.fresh (Nat.le_refl _)) rfl⟩
  · exact call_tuple_of pins s σ H _ us Q I r ⟨p, ys, rfl, .inr ⟨hq, q⟩⟩
def tBMF (r : V → List V → Hp → VK → Prop) (to : TE) (t : TA) : TE := fun σ H Q => to σ H fun x H1 => (∃ a xs, x = .ref a ∧ TupF H1 a xs) ∧ t σ H1 fun xs H2 => r x xs H2 Q
variable {o e : Expr} {es : List Expr} {to : TE} {t : TA} {name : Str} {apos cpos : Pos} {T id : String} {r : V → List V → Hp → VK → Prop}
theorem pe_bmF (slot : Slot "tuple" name id) (hty : typeOf (.builtin id) = pure (.type "method_descriptor")) (hm : MtR X id r) (ho : PE X o to) (ha : PA X (e :: es) t)
    (hbase : attributeBase o name X.env (eval o X.env) = eval o X.env := by rfl)
    (hfew : ((backTo cpos (starEach (e :: es) X.env)).all (fun x => !x.1) && (backToKw cpos (keywordEach [] X.env)).all (fun x => x.1.isSome)
      && decide ((e :: es).length + ([] : List Keyword).length + (if ([] : List Keyword).isEmpty then 0 else 1) < 30)) = true := by rfl)
    (hline : (apos.endLine == cpos.line) = true := by rfl) (hs : starEach (e :: es) X.env = (false, eval e X.env) :: starEach es X.env := by rfl) (hplain : (backTo cpos (starEach es X.env)).any (·.1) = false := by rfl) :
    PE X (.Call (.Attribute o name apos) (e :: es) [] cpos) (tBMF r to t) := by
  refine ⟨fun pins s σ H Q I h => ?_⟩
  refine wpAny_Call_method_late hbase hfew hline rfl (thn (ho.run pins s σ H _ I h) fun v s1 ⟨x, H1, I1, r1, ty, q1⟩ => ?_)
  obtain ⟨a, xs, rfl, oo, ho2, hd⟩ := ty
  cases r1
  obtain ⟨g1, g2⟩ := I1.hok a _ ho2
  obtain ⟨hz, its, rv, hit⟩ := g2
  obtain ⟨o2, e2, hc, n2, hdat⟩ := hit
  rw [g1] at e2
  cases e2
  refine ⟨"tuple", id, F.plainAttrs_tuple, slot, hty, ⟨_, g1, hc⟩, fun b eb => ?_, ?_⟩
  · cases eb
    exact ⟨_, g1, hd⟩
  have hA := ha.run cpos pins s1 σ H1 _ I1 q1
  rw [hs] at hA ⊢
  refine Calls.callWith_builtin (by show (false || (backTo cpos (starEach es X.env)).any (·.1)) = false; rw [hplain] <;> rfl) (Calls.evalArgs_plain ?_)
  exact thn hA fun us s2 ⟨vs, H2, I2, r2, q2⟩ => hm pins s2 σ H2 (.ref a) vs _ us Q I2 (show RelV (.ref a) (Value.ref a) from rfl) r2 q2
theorem lay_ints : ∀ ns : List Int, PyData.canLayAll0 (ns.map PyData.int) = true
  | [] => rfl
  | n :: ns => by
    rw [List.map_cons, PyData.canLayAll0, lay_ints ns]
    rfl
/-- t.index(k), whole numbers, k there -/
def rIndexT (K : PySem.W.Frag) : V → List V → Hp → VK → Prop := fun x vs H Q => ∃ (a : Addr) (ns : List Int) (k : Int) (j : Nat), x = .ref a ∧ vs = [.int k] ∧ SqT K H a (ns.map V.int) ∧ ns[j]? = some k ∧ (∀ m, m < j → ns[m]? ≠ some k) ∧ Q (.int (j : Nat)) H
theorem mt_indexTI (hu : X.A.units + 65 < cLine) : MtR X "tuple.index" (rIndexT X.K) := by
  intro pins s σ H x xs v us Q I rx rxs h
  obtain ⟨a, ns, k, j, rfl, rfl, hl, hj, hno, q⟩ := h
  cases rx
  cases rxs with
  | cons ry rt =>
    rename_i uy ut
    cases rt
    obtain ⟨its, rv, pl, hlen⟩ := I.tuple hl
    obtain ⟨as, h4⟩ := Dp.readsAll I (ns.map PyData.int) _ its (dpAll_ints _ _ ns) rv
    obtain ⟨bs, r1⟩ := Dp.reads I (.int k) _ uy (.int k) ry
    have hjl := (List.getElem?_eq_some_iff.mp hj).1
    have hvl := rv.length
    rw [List.length_map] at hvl hlen
    obtain ⟨⟨cls, dd, data, sl⟩, ho, hc, n, hd'⟩ := id pl
    simp only at hc hd'
    subst hc hd'
    have hxs : PyData.canLayAll0 (ns.map PyData.int) = true := lay_ints ns
    have hmap : its.map (SeqAt.readOf s.heap) = ns.map PyData.int := SeqAt.readsAll_map _ its as hxs h4
    have at_ : ∀ (m : Nat) (hm : m < its.toArray.size) (z : Int), ns[m]? = some z → SeqAt.readOf s.heap its.toArray[m] = .int z := by
      intro m hm z hz
      have hml : m < its.length := by simpa using hm
      have e1 : (its.map (SeqAt.readOf s.heap))[m]? = some (.int z) := by rw [hmap, List.getElem?_map, hz]; rfl
      rw [List.getElem?_map, List.getElem?_eq_getElem hml] at e1
      have e2 : SeqAt.readOf s.heap its[m] = .int z := Option.some.inj e1
      simpa using e2
    have hj2 : j < its.toArray.size := by simp only [List.size_toArray]; omega
    refine call_meets F.slot_tuple_index ⟨_, ho, rfl⟩ F.entry_tuple_index (F.args_tuple_index_2 _ _)
      (TI.tuple_indexAt a its.toArray n dd sl uy (fun u => PyData.eqv (SeqAt.readOf s.heap u) (.int k)) j hj2 ?_ ?_) ⟨ho, SeqAt.items_eqAt (vs := its.toArray) (show ReadsAll s.heap its.toArray.toList (ns.map PyData.int) as from h4) r1 hxs rfl (Nat.lt_of_le_of_lt (Nat.add_le_add_left (Nat.min_le_right _ _) _) (by simp only [PyData.depth]; omega)), ?_⟩
    · show PyData.eqv (SeqAt.readOf s.heap its.toArray[j]) (.int k) = true
      rw [at_ j hj2 k hj]
      show (k == k) = true
      exact beq_self_eq_true k
    · intro m hm hmj
      have hmn : m < ns.length := by simp only [List.size_toArray] at hm; omega
      have hz : ns[m]? = some ns[m] := List.getElem?_eq_getElem hmn
      show PyData.eqv (SeqAt.readOf s.heap its.toArray[m]) (.int k) = false
      rw [at_ m hm _ hz]
      show (ns[m] == k) = false
      exact beq_eq_false_iff_ne.mpr fun z => hno m hmj (by rw [hz, z])
    · exact ⟨.int (j : Nat), H, I.tok _, ⟨_, rfl⟩, q⟩
/-- x.count(y), two names, x a list or a known tuple of whole numbers -/
def tCnt (K : PySem.W.Frag) (i j : Nat) : TE := fun σ H Q => ∃ (a : Addr) (ns : List Int) (k : Int), σ[i]? = some (some (.ref a)) ∧ σ[j]? = some (some (.int k)) ∧ (SqL K H a (ns.map V.int) ∨ TupF H a (ns.map V.int)) ∧ Q (.int (ns.count k : Nat)) H
theorem pe_cnt {e : Expr} {i j : Nat} (h1 : PE X e (tBM X.K "list" (rCountL X.K) (tVar i) (tCons (tVar j) tNil))) (h2 : PE X e (tBMF (rCountT X.K) (tVar i) (tCons (tVar j) tNil))) : PE X e (tCnt X.K i j) := by
  refine ⟨fun pins s σ H Q I h => ?_⟩
  obtain ⟨a, ns, k, e1, e2, h, q⟩ := h
  rcases h with h | h
  · exact h1.run pins s σ H Q I ⟨_, e1, .inl ⟨rfl, _, h⟩, _, e2, a, ns, k, rfl, rfl, h, q⟩
  · exact h2.run pins s σ H Q I ⟨_, e1, ⟨a, _, rfl, h⟩, _, e2, a, ns, k, rfl, rfl, h.sq, q⟩
end
/-- two promises of one def -/
theorem FnOk.or {P : Program} {w : World} {K : PySem.W.Frag} {mg : Str → Option Value} {base : Heap} {CX : CXT} {k : Nat} {f : Addr} {fd : FuncData} {ps : List Str} {s1 s2 : Sp} (F1 : FnOk P w K mg base CX k f fd ps s1) (F2 : FnOk P w K mg base CX k f fd ps s2) :
    FnOk P w K mg base CX k f fd ps (fun vs H Q E => s1 vs H Q E ∨ s2 vs H Q E) := by
  refine ⟨fun vs H Q E h => h.elim (F1.len vs H Q E) (F2.len vs H Q E), ?_⟩
  intro A outer s H args us vs Q E hr e b
  have h1 := F1.run A outer s H args us vs Q E hr e b
  have h2 := F2.run A outer s H args us vs Q E hr e b
  intros
  first
    | (rename_i h; exact h.elim (fun z => h1 (by assumption) z) (fun z => h2 (by assumption) z))
    | (rename_i h; exact h.elim h1 h2)
end L2

set_option Elab.async false
set_option linter.all false
set_option maxRecDepth 100000
set_option maxHeartbeats 2000000
/-! own rules: tuple(xs), xs a list or a tuple, in one reading -/
namespace L2
open PySem PySem.Spec PyProof.Rows L2
def rTupU : List V → Hp → VK → Prop := fun xs H Q => ∃ p ys, xs = [V.ref p] ∧ (H p = some (.lst ys) ∨ H p = some (.tup ys)) ∧ ∀ t H', Same H H' → H' t = some (.tup ys) → Q (.ref t) H'
theorem call_tupU {X : Cx} : CallR X (.type "tuple") rTupU := by
  intro pins s σ H xs us Q I r ⟨p, ys, e, h, q⟩
  rcases h with h | h
  · exact call_tuple_of pins s σ H xs us Q I r ⟨p, ys, e, .inl ⟨SqL.of h, fun l nl => q l _ (fun b o e => by rw [upd_ne (ne_of_none e nl)]; exact e) upd_same⟩⟩
  · exact call_tuple_of pins s σ H xs us Q I r ⟨p, ys, e, .inr ⟨SqT.of h, q p H (Same.refl _) h⟩⟩
def rCatU : R2 := fun x y H Q => ∃ a b xs ys, x = .ref a ∧ y = .ref b ∧ H a = some (.tup xs) ∧ H b = some (.tup ys) ∧ xs.length + ys.length ≤ sizeLine ∧ ∀ t H', Same H H' → H' t = some (.tup (xs ++ ys)) → Q (.ref t) H'
theorem op_catU {X : Cx} : OpR X (binaryOp .Add) rCatU := by
  intro pins s σ H x y v u Q I rx ry h
  obtain ⟨a, b, xs, ys, ex, ey, ha, hb, hz, q⟩ := h
  refine op_catA pins s σ H x y v u Q I rx ry ⟨a, b, xs, ys, ex, ey, SqT.of ha, SqT.of hb, hz, fun e => ?_, fun _ e => ?_, fun _ _ p np => q p _ (fun b o e => by rw [upd_ne (ne_of_none e np)]; exact e) upd_same⟩
  · exact q b H (fun _ _ e => e) (by rw [e]; exact hb)
  · exact q a H (fun _ _ e => e) (by rw [e, List.append_nil]; exact ha)
def rSlU : V → Option Int → Option Int → Hp → VK → Prop := fun x lo hi H Q => ∃ a xs, x = .ref a ∧ H a = some (.tup xs) ∧ ∀ (p : Addr) (H' : Hp), Same H H' → H' p = some (.tup (cutV xs lo hi)) → Q (.ref p) H'
theorem sl_tupU {X : Cx} : SlR X rSlU := by
  intro pins s σ H x v vl vu lo hi sl Q I rx hs pl pu h
  obtain ⟨a, xs, ex, hx, q⟩ := h
  refine sl_tupA pins s σ H x v vl vu lo hi sl Q I rx hs pl pu ⟨a, xs, ex, SqT.of hx, fun y => ?_, fun _ p np => q p _ (fun b o e => by rw [upd_ne (ne_of_none e np)]; exact e) upd_same⟩
  refine q a H (fun _ _ e => e) ?_
  have : cutV xs lo hi = xs := by
    unfold cutV
    rw [y.1, y.2, List.drop_zero, Nat.sub_zero, List.take_length]
  rw [this]
  exact hx
end L2
namespace Tw
open PySem PySem.Spec PyProof.Rows L2 PySem.W
section
variable {X : Cx} {CX : CXT} {k : Nat} {f C D : Addr} {fd : FuncData} {ps : List Str} {sp : Sp} {E : XK}
theorem op_eq_two (c : EqC X.K C f) (hd : PySem.W.notFirst X.K C (.ref D) = true) (F : FnOk X.prog X.w X.K X.mg X.base CX k f fd ps sp) (hr : Room k X.A) (hb : Binds X.K fd ps []) (hx : Passes CX X E) : OpR X (compareOp .Eq) (fun x y H Q =>
  ∃ a dx fs b dy gs, x = .ref a ∧ H a = some (.ins C dx fs) ∧ y = .ref b ∧ H b = some (.ins D dy gs) ∧ sp [.ref a, y] H (fun v H' => ∃ r, v = .bl r ∧ Q (.bl r) H') E) := by
  intro pins s σ H x y v u Q I rx ry ⟨a, dx, fs, b, dy, gs, ex, ha, ey, hb2, q⟩
  subst ex
  subst ey
  obtain rfl : v = Value.ref a := rx
  obtain rfl : u = Value.ref b := ry
  obtain ⟨mA, O, rr, _, _, _⟩ := ins_get I.hok ha
  obtain ⟨od, J, hl⟩ := O.look
  obtain ⟨mB, OB, rrB, _, _, _⟩ := ins_get I.hok hb2
  obtain ⟨odB, JB, hlB⟩ := OB.look
  obtain ⟨m0, hF⟩ := I.fr
  show wpAny _ _ (richCompare .Eq (.ref a) (.ref b)) _ _ _
  refine cmp_K hr.units0 hF I.ok.mod.kin J JB.type hd c.eq c.fn (thn (run_sub F ⟨hr, rfl⟩ hb hx I (.cons (relR a) (.cons (relR b) .nil)) q) fun r s' ⟨z, H', I', rz, b2, ez, q'⟩ => ?_)
  subst ez
  obtain rfl : r = Value.bool b2 := rz
  exact ⟨_, H', I', relB b2, q'⟩
end
end Tw

set_option Elab.async false
set_option linter.all false
set_option maxRecDepth 100000
set_option maxHeartbeats 2000000
/-! own rules: min(xs, key=lambda x: ys[x]), ys a tuple, a name of the def; t[::-1], t a tuple -/
namespace Cl
open PySem PySem.Spec PyProof.Rows L2 LamX
theorem tuple_getitem_lookup : typeLookup (Value.type "tuple") (Str.ofString "__getitem__") = pure (some (Value.builtin "tuple.__getitem__")) := rfl
section
variable {prog : Program} {w : World} {A : Around} {E : Value → Shared → Prop} {s : Shared}
theorem seqT {i : Int} {vs : List Value} {u : Value} (h0 : 0 ≤ i) (h : vs[i.toNat]? = some u) : seqIndex? i vs.toArray.size = some i.toNat := by
  have hl := (List.getElem?_eq_some_iff.mp h).1
  unfold seqIndex?
  have e : vs.toArray.size = vs.length := by simp
  rw [e, if_neg (show ¬ i < 0 by omega)]
  show (if (decide (0 ≤ i) && decide (i < (vs.length : Int))) = true then some i.toNat else none) = _
  rw [decide_eq_true h0, decide_eq_true (show i < (vs.length : Int) by omega)]
  rfl
/-- lambda x: y[x], called with an int -/
theorem lam_ixT {f l c' ck : Addr} {q x y : Str} {params : Arguments} {p1 p2 p3 : Pos} {scope : Scope} {cl : List (Str × Addr)} {pm ctv u : Value} {vs : List Value} {i : Int} {t : Tok} {Q : Value → Shared → Prop}
    (S : LSc scope x y) (hd : A.depth < recursionLimit) (hf : s.heap.get? f = some (PySem.W.kla_obj "<lambda>" q params (.Subscript (.Name y p1) (.Name x p2) p3) scope cl pm c' ctv))
    (hbind : ∀ v : Value, bindArgs (PySem.W.kla_fn "<lambda>" q params (.Subscript (.Name y p1) (.Name x p2) p3) scope cl pm (.ref c') ctv) ⟨[v], []⟩ = pure [(x, v)])
    (hcode : ∃ (oc : Obj) (us : Array Value) (tk : Tok), s.heap.get? c' = some oc ∧ oc.data = .fields us ∧ us[1]? = some (.str q tk)) (hlim : s.heap.NoLimit)
    (hck : cl.lookup y = some ck) (hcell : s.heap.IsCell ck (some (.ref l))) (hl : IsTup s.heap l vs.toArray) (h0 : 0 ≤ i) (h1 : i < 2 ^ 63) (hi : vs[i.toNat]? = some u)
    (hdx : (x == ("__debug__" : Str)) = false) (hdy : (y == ("__debug__" : Str)) = false) (hcy : (y == ("__classdict__" : Str)) = false)
    (h : ∀ h' tk, s.toks ≤ tk → (∀ b o, s.heap.get? b = some o → h'.get? b = some o) → Q u { s with heap := h', toks := tk }) : wpAny (model prog w) A (call (.ref f) [.int i t]) Q E s := by
  obtain ⟨oc, us, tq, hoc, hdc, hvc⟩ := hcode
  refine wpAny_call (PySem.W.kla_callFunE hd hf rfl S.co S.gen rfl ⟨c', oc, us, tq, rfl, hoc, hdc, hvc⟩ ?_)
  rw [hbind]
  refine wpAny_pure (wpAny_newFunctionEnv S.nocell (fun z hz => by rw [List.mem_singleton.mp hz]; exact S.px) (fun h₁ hns hsb => ⟨hlim.fresh _ hsb, ?_⟩) S.kind)
  have kp : ∀ b o, s.heap.get? b = some o → h₁.get? b = some o := fun b o e => hsb.extBut b o (Nat.ne_of_lt (Heap.lt_size e)) (Heap.get?_push_of_some _ e)
  refine PySem.W.kla_codeExpr ?_
  refine wpAny_Subscript_Name tuple_getitem_lookup ?_
  refine wpAny_Name (wpAny_loadName_free S.kind S.fy hck (hcell.keeps kp) ?_ hcy) hdy
  refine wpAny_Name (wpAny_loadName_local S.kind S.px hns (v := .int i t) ?_ ?_) hdx
  · simp [List.lookup]
  · have hl' : IsTup h₁ l vs.toArray := hl.keeps kp
    refine ⟨hl'.typeIs, getItem_tuple hl' (by omega) h1 (j := i.toNat) (seqT h0 hi) (by simpa using hi) ?_⟩
    exact h h₁ _ (by show s.toks ≤ s.toks + _; omega) kp
/-- what a lambda x: y[x] is, and what it reads -/
structure LamAtT (h : Heap) (f : Addr) (x y : Str) (q : Str) (params : Arguments) (p1 p2 p3 : Pos) (scope : Scope) (cl : List (Str × Addr)) (pm ctv : Value) (c' ck l : Addr) (us : List Value) : Prop where
  fn : h.get? f = some (PySem.W.kla_obj "<lambda>" q params (.Subscript (.Name y p1) (.Name x p2) p3) scope cl pm c' ctv)
  code : ∃ (oc : Obj) (us : Array Value) (tk : Tok), h.get? c' = some oc ∧ oc.data = .fields us ∧ us[1]? = some (.str q tk)
  lim : h.NoLimit
  hck : cl.lookup y = some ck
  cell : h.IsCell ck (some (.ref l))
  lst : IsTup h l us.toArray
theorem LamAtT.keeps {h h' : Heap} {f : Addr} {x y : Str} {q : Str} {params : Arguments} {p1 p2 p3 : Pos} {scope : Scope} {cl : List (Str × Addr)} {pm ctv : Value} {c' ck l : Addr} {us : List Value}
    (L : LamAtT h f x y q params p1 p2 p3 scope cl pm ctv c' ck l us) (k : ∀ b o, h.get? b = some o → h'.get? b = some o) : LamAtT h' f x y q params p1 p2 p3 scope cl pm ctv c' ck l us :=
  ⟨k _ _ L.fn, let ⟨oc, us, tk, a, b, c⟩ := L.code; ⟨oc, us, tk, k _ _ a, b, c⟩, L.lim.keeps k, L.hck, L.cell.keeps k, L.lst.keeps k⟩
theorem min_lamT {f a l c' ck : Addr} {q x y : Str} {params : Arguments} {p1 p2 p3 : Pos} {scope : Scope} {cl : List (Str × Addr)} {pm ctv : Value} {cs us : List Value} {ns : Nat → Int} {kf : Nat → Int} {Q : Value → Shared → Prop}
    (hh : A.handled = none) (S : LSc scope x y) (hd : A.depth < recursionLimit) (L : LamAtT s.heap f x y q params p1 p2 p3 scope cl pm ctv c' ck l us)
    (hbind : ∀ v : Value, bindArgs (PySem.W.kla_fn "<lambda>" q params (.Subscript (.Name y p1) (.Name x p2) p3) scope cl pm (.ref c') ctv) ⟨[v], []⟩ = pure [(x, v)])
    (hdx : (x == ("__debug__" : Str)) = false) (hdy : (y == ("__debug__" : Str)) = false) (hcy : (y == ("__classdict__" : Str)) = false)
    (ht : s.heap.IsTuple a cs.toArray) (hc : ∀ i, i < cs.length → ∃ t, cs[i]? = some (.int (ns i) t)) (hne : 0 < cs.length)
    (hk : ∀ i, i < cs.length → 0 ≤ ns i ∧ ns i < 2 ^ 63 ∧ ∃ t, us[(ns i).toNat]? = some (.int (kf i) t))
    (h : ∀ v h' tk, cs[argBest (fun i j => decide (kf i < kf j)) (cs.length - 1)]? = some v → (∀ b o, s.heap.get? b = some o → h'.get? b = some o) → Q v { s with heap := h', toks := tk }) :
    wpAny (model prog w) A (call (.builtin "min") [.ref a] [(Str.ofString "key", .ref f)]) Q E s := by
  have hd1 : A.in1.depth < recursionLimit := hd
  refine call_min_walkK (PySem.W.iter_tupleW (A := A.in1) hh ht fun s₂ e2 W st hfp hfr kp2 => ?_)
  have sz2 : s.heap.objs.size < s₂.heap.objs.size := hfp _ List.mem_cons_self
  have old : ∀ {s' : Shared}, Moved [s₂.heap.objs.size, s.heap.objs.size] (fun a b => b = a) s₂ s' → ∀ b o, s.heap.get? b = some o → s'.heap.get? b = some o := fun {s'} m b o e => by
    have lt := Heap.lt_size e
    refine m.heap b o (fun hm => ?_) (kp2 b o e)
    rcases List.mem_cons.mp hm with z | hm
    · rw [z] at lt
      exact Nat.lt_irrefl _ (Nat.lt_trans lt sz2)
    · rw [List.mem_singleton.mp hm] at lt
      exact Nat.lt_irrefl _ lt
  have szc : cs.toArray.size = cs.length := by simp
  refine ⟨s.heap.objs.size, [s.heap.objs.size, a], [s.heap.objs.size], (fun a b => b = a), cs.toArray.size, _, _, fun s' => Moved [s₂.heap.objs.size, s.heap.objs.size] (fun a b => b = a) s₂ s', fun i k _ => ∃ t, k = .int (kf i) t, fun i j => decide (kf i < kf j), rfl, W, st, hfp, by rw [szc]; exact hne, ⟨?_, ?_, ?_, ?_⟩, Moved.refl fun _ => rfl, ?_⟩
  · exact fun s1 s' J m => J.trans (fun _ _ _ h1 h2 => h2.trans h1) m
  · exact fun i k s1 s' v _ => v
  · intro i v s1 o Q' E' hi hP J stI hS cont
    rw [szc] at hi
    obtain ⟨t, ec⟩ := hc i hi
    have ev : v = .int (ns i) t := by
      have hP' : cs[i]? = some v := by simpa using hP
      rw [ec] at hP'
      exact (Option.some.inj hP').symm
    subst ev
    obtain ⟨h0, h1, tk, eu⟩ := hk i hi
    have L1 := L.keeps (old J)
    refine lam_ixT S hd1 L1.fn hbind L1.code L1.lim L1.hck L1.cell L1.lst h0 h1 eu hdx hdy hcy fun h' tk' hle kp => ?_
    exact cont _ _ (J.then_heap hle fun b o _ e => kp b o e) (W.frame _ s1 h' tk' stI hle fun b _ o e => kp b o e) (kp _ _ hS) ⟨_, rfl⟩ fun j k' z => z
  · intro i j ki kj s1 Q' E' J vi vj q
    exact CmpOf.ints_lt (prog := prog) (w := w) (A := A.in1) (P := fun i v => ∃ t, v = .int (kf i) t) kf (fun i v h => h) i j ki kj s1 Q' E' vi vj q
  · intro v s' hP J
    rw [szc] at hP
    have hP' : cs[argBest (fun i j => decide (kf i < kf j)) (cs.length - 1)]? = some v := by simpa using hP
    have e : s' = { s with heap := s'.heap, toks := s'.toks } := by
      obtain ⟨hp, g, d, tk, os⟩ := s'
      subst e2
      have h1 : g = s.gens := J.gens
      have h2 : d = s.drawn := J.drawn
      have h3 : os = s.os := J.os
      subst h1 h2 h3
      rfl
    rw [e]
    exact h v s'.heap s'.toks hP' (old J)
end
section
variable {X : Cx}
def tMinLamT (K : PySem.W.Frag) (T : List (Addr × Str)) (j : Nat) (te : TE) : TE := fun σ H Q => te σ H fun v H1 => ∃ (a l : Addr) (ns ks : List Int), v = .ref a ∧ SqT K H1 a (ns.map V.int) ∧ σ[j]? = some (some (.ref l)) ∧ SqT K H1 l (ks.map V.int) ∧ 0 < ns.length ∧ (∀ n ∈ ns, 0 ≤ n ∧ n < ks.length) ∧
  Tabs T H1 ∧ ∀ (m : Int) (H2 : Hp), ExtN H1 H2 → Tabs T H2 → LeastAt ks ns m → Q (.int m) H2
/-- min(e, key=lambda x: y[x]), y a name of the def that it shares with the lambda -/
theorem pe_minlamT {T : List (Addr × Str)} {c P : Addr} {p p1 p2 p3 lpos kpos pos : Pos} {e : Expr} {te : TE} {x y : Str} {j : Nat} {params : Arguments} {scope : Scope}
    (hg : Gl X "min") (hm : X.mg "min" = none) (he : PE X e te) (hd : X.A.depth < recursionLimit) (hh : X.A.handled = none) (TB : TabB X.base X.mg c P) (hcode : X.env.code = .ref c) (hmT : (P, X.env.qual ++ "<lambda>") ∈ T)
    (hu : ∀ q ∈ T, q.1 = P → q.2 = X.env.qual ++ "<lambda>") (S : LSc scope x y) (hfy : X.env.scope.names.lookup y = some .cell) (hfr : ∀ z ∈ scope.names, z.2 = .free → z.1 = y) (hN : X.N[j]? = some y) (hdef : defaultsOf params X.env = ([], []))
    (hbind : ∀ (q : Str) (cl : List (Str × Addr)) (pm cv ctv v : Value), bindArgs (PySem.W.kla_fn "<lambda>" q params (.Subscript (.Name y p1) (.Name x p2) p3) scope cl pm cv ctv) ⟨[v], []⟩ = pure [(x, v)])
    (hs : starEach [e] X.env = (false, eval e X.env) :: starEach [] X.env := by rfl)
    (hdx : (x == ("__debug__" : Str)) = false := by decide) (hdy : (y == ("__debug__" : Str)) = false := by decide) (hcy : (y == ("__classdict__" : Str)) = false := by decide) :
    PE X (.Call (.Name "min" p) [e] [⟨some "key", .Lambda params (.Subscript (.Name y p1) (.Name x p2) p3) scope lpos, kpos⟩] pos) (tMinLamT X.K T j te) := by
  refine ⟨fun pins s σ H Q I h => ?_⟩
  have hfree : ∀ z ∈ scope.names, z.2 = .free → ∃ c, X.env.cells.lookup z.1 = some c := fun z hz e => I.ok.has _ (.inl (by rw [hfr z hz e]; exact hfy))
  refine wpAny_Call_Name_kw (ld_blt I hg hm (u := .builtin "min") (by decide +kernel) ?_)
  refine PyProof.Rows.callWith_kw ?_ (by rw [hs]; rfl) (by rw [hs]; rfl) (by rfl) (by rfl)
  rw [hs]
  show wpAny _ _ (spliced ((false, eval e X.env) :: backTo pos (starEach [] X.env))) _ _ s
  refine Calls.spliced_cons (thn (he.run pins s σ H _ I h) fun u s1 ⟨v, H1, I1, r1, a, l, ns, ks, ev, ht, hσ, hl, hne, hin, hT, q⟩ => Calls.spliced_nil ?_)
  subst ev
  obtain rfl : u = Value.ref a := r1
  show wpAny _ _ (evalAll ((do let v ← eval (.Lambda params (.Subscript (.Name y p1) (.Name x p2) p3) scope lpos) X.env; standAt pos; pure v) :: [])) _ _ s1
  refine wpAny_evalAll_cons (wpAny_bind (lam_make2 I1 TB hcode hmT hu hT hdef hfree fun f c' pm ctv H2 s2 I2 eN T2 hf hfn hff hco => wpAny_bind (wpAny_standAt (wpAny_pure (wpAny_evalAll_nil ?_)))))
  show wpAny _ _ (call (.builtin "min") [.ref a] [(Str.ofString "key", .ref f)]) _ _ s2
  obtain ⟨cs, rc, tc, _⟩ := I2.tuple (eN.sqT ht)
  obtain ⟨us, ru, pl, hz2⟩ := I2.tuple (eN.sqT hl)
  obtain ⟨m, _, look⟩ := I2.loc
  obtain ⟨u0, r0, lk⟩ := look j y _ hN hσ (.inr (.inl hfy))
  obtain rfl : u0 = Value.ref l := r0
  have cellAt : ∃ ck, X.env.cells.lookup y = some ck ∧ s2.heap.IsCell ck (some (.ref l)) := by
    rcases lk with ⟨k, _⟩ | ⟨_, ck, e1, e2⟩
    · rw [show X.env.kindOf y = some .cell from hfy] at k
      cases k
    · exact ⟨ck, e1, e2⟩
  obtain ⟨ck, eck, hcell⟩ := cellAt
  obtain ⟨⟨oc, vs, tk, o1, o2, o3⟩, _, _⟩ := I2.hok c' _ hco
  have lc : cs.length = ns.length := by rw [← rc.length, List.length_map]
  have lu : us.length = ks.length := by rw [← ru.length, List.length_map]
  have nsAt : ∀ i, i < ns.length → ∃ t, cs[i]? = some (.int (ns.getD i 0) t) := fun i hi => by
    obtain ⟨z, ez, rz⟩ := rc.get (i := i) (x := V.int (ns.getD i 0)) (by rw [List.getElem?_map, List.getD_eq_getElem?_getD, List.getElem?_eq_getElem hi]; rfl)
    obtain ⟨t, rfl⟩ := rz
    exact ⟨t, ez⟩
  refine min_lamT (ns := fun i => ns.getD i 0) (kf := fun i => ks.getD (ns.getD i 0).toNat 0) hh S hd ⟨hf, ⟨oc, vs, tk, o1, o2, o3⟩, I2.nolimit, NdefX.clo_has hfree (PySem.mem_of_lookup S.fy) eck, hcell, pl⟩ (fun v => hbind _ _ _ _ _ v) hdx hdy hcy tc (fun i hi => nsAt i (by omega)) (by omega)
    (fun i hi => ?_) fun v h' tk2 hv kp => ?_
  · have hi' : i < ns.length := by omega
    have hmem : ns.getD i 0 ∈ ns := by rw [List.getD_eq_getElem?_getD, List.getElem?_eq_getElem hi']; exact List.getElem_mem hi'
    obtain ⟨b0, b1⟩ := hin _ hmem
    have hs63 := line63
    rw [List.length_map] at hz2
    have hk' : (ns.getD i 0).toNat < ks.length := by omega
    obtain ⟨z, ez, rz⟩ := ru.get (i := (ns.getD i 0).toNat) (x := V.int (ks.getD (ns.getD i 0).toNat 0)) (by rw [List.getElem?_map, List.getD_eq_getElem?_getD (l := ks), List.getElem?_eq_getElem hk']; rfl)
    obtain ⟨t, rfl⟩ := rz
    exact ⟨b0, by omega, t, ez⟩
  · obtain ⟨n, en⟩ : ∃ n, ns.length = n + 1 := ⟨ns.length - 1, by omega⟩
    have fl := best_is (fun i => ks.getD (ns.getD i 0).toNat 0) n
    rw [← en] at fl
    rw [lc, show ns.length - 1 = n by omega] at hv
    obtain ⟨t, et⟩ := nsAt _ fl.1
    rw [et] at hv
    cases hv
    exact ⟨.int _, H2, I2.kept kp, ⟨t, rfl⟩, q _ H2 eN T2 ⟨_, fl, rfl⟩⟩
end
end Cl
namespace L2
open PySem PySem.Spec PyProof.Rows L2
section
variable {prog : Program} {w : World} {A : Around} {E : Value → Shared → Prop} {s : Shared}
theorem pick_rev (items : Array Value) : (List.filterMap (fun (k : Nat) => items[((items.size : Int) - 1 + ↑k * -1).toNat]?) (List.range items.size)) = items.toList.reverse := by
  obtain ⟨l⟩ := items
  simp only [List.size_toArray, List.getElem?_toArray]
  have h : ∀ m, m ≤ l.length → List.filterMap (fun (k : Nat) => l[((l.length : Int) - 1 + ↑k * -1).toNat]?) (List.range m) = (l.drop (l.length - m)).reverse := by
    intro m
    induction m with
    | zero => intro _; simp
    | succ m ih =>
      intro hm
      rw [List.range_succ, List.filterMap_append, ih (by omega)]
      have hi : l.length - (m + 1) < l.length := by omega
      have e1 : List.filterMap (fun (k : Nat) => l[((l.length : Int) - 1 + ↑k * -1).toNat]?) [m] = [l[l.length - (m + 1)]] := by
        rw [List.filterMap_cons]
        rw [show (((l.length : Int) - 1 + ((m : Nat) : Int) * -1).toNat) = l.length - (m + 1) by omega, List.getElem?_eq_getElem hi]
        rfl
      have e2 : l.drop (l.length - (m + 1)) = l[l.length - (m + 1)] :: l.drop (l.length - m) := by
        rw [List.drop_eq_getElem_cons hi, show l.length - (m + 1) + 1 = l.length - m by omega]
      rw [e1, e2, List.reverse_cons]
  rw [h _ (Nat.le_refl _), Nat.sub_self, List.drop_zero]
theorem sliceApplied_rev {sl : Addr} {t : Tok} {n : Nat} {Q : Int × Int × Nat → Shared → Prop} (h : s.heap.IsSliceOf sl .none .none (.int (-1) t)) (q : Q ((n : Int) - 1, -1, n) s) :
    wpAny (model prog w) A (Builtin.Slice.sliceApplied (.ref sl) (pure ↑n)) Q E s := by
  obtain ⟨o, h1, h2, h3⟩ := h
  unfold Builtin.Slice.sliceApplied
  refine wpAny_bind ?_
  unfold Builtin.Slice.sliceFields
  refine wpAny_bind (wpAny_field h1 h3 (by rfl) ?_)
  refine wpAny_bind (wpAny_field h1 h3 (by rfl) ?_)
  refine wpAny_bind (wpAny_field h1 h3 (by rfl) ?_)
  refine wpAny_pure ?_
  refine wpAny_bind (slicePart_int ?_)
  show wpAny _ _ (if ((-1 : Int) == 0) = true then _ else _) _ _ _
  rw [if_neg (by decide)]
  refine wpAny_bind (slicePart_none ?_)
  refine wpAny_bind (slicePart_none ?_)
  refine wpAny_bind (wpAny_pure ?_)
  have e : Builtin.Slice.sliceAdjust none none (-1) (n : Int) = ((n : Int) - 1, -1) := rfl
  show wpAny _ _ (match Builtin.Slice.sliceAdjust none none (-1) (n : Int) with | (lo, hi) => pure (lo, -1, Builtin.Slice.slicePlaces lo hi (-1))) _ _ _
  rw [e]
  refine wpAny_pure ?_
  have e2 : Builtin.Slice.slicePlaces ((n : Int) - 1) (-1) (-1) = n := by
    unfold Builtin.Slice.slicePlaces
    rw [if_neg (by decide)]
    by_cases h0 : n = 0
    · subst h0
      rfl
    · rw [if_pos (by omega)]
      show (((n : Int) - 1 - -1 - 1) / 1 + 1).toNat = n
      omega
  rw [e2]
  exact q
theorem getItem_tuple_rev {t sl : Addr} {items : Array Value} {tk : Tok} {Q : Value → Shared → Prop} (ht : IsTup s.heap t items) (hs : s.heap.IsSliceOf sl .none .none (.int (-1) tk)) (hz : items.size ≤ sizeLine)
    (q : Q (.ref s.heap.objs.size) { s with heap := s.heap.push { cls := .type "tuple", data := .seq items.toList.reverse.toArray } }) : wpAny (model prog w) A (getItem (.ref t) (.ref sl)) Q E s := by
  unfold getItem
  refine wpAny_holding ?_
  refine wpAny_bind (wpAny_sequenceKey ht.typeIs (by decide) ?_)
  refine wpAny_bind (wpAny_callSpecial?_slot ht.typeIs slot_tuple_getitem (wpAny_call_entry slot_tuple_getitem ht.typeIs entry_tuple_getitem ?_ (args_tuple_getitem _ _)))
  unfold Builtin.«tuple.__getitem__»
  show wpAny _ _ (do
      let xs ← Builtin.Tuple.tupleItemsOf (.ref t)
      _) _ _ _
  refine wpAny_bind (tupleItemsOf_ ht ?_)
  obtain ⟨o, h1, h2, h3⟩ := id hs
  refine wpAny_bind (wpAny_typeOf (T := "slice") ⟨_, h1, h2⟩ ?_)
  rw [if_pos (by decide)]
  refine wpAny_bind (sliceApplied_rev hs ?_)
  show wpAny _ _ (if (((items.size : Int) - 1) == 0 && ((-1 : Int) == 1) && items.size == items.size) = true then _ else _) _ _ _
  rw [if_neg (by simp)]
  refine wpAny_bind ?_
  unfold Builtin.Tuple.tupleExact
  refine wpAny_newObj_type ?_ ?_
  · rw [pick_rev]
    refine wpAny_pure ⟨_, rfl, ?_⟩
    exact wpAny_pure q
  · show sizeOk (.seq _)
    rw [pick_rev]
    show (items.toList.reverse.toArray).size ≤ sizeLine
    simpa using hz
end
section
variable {X : Cx}
/-- t[::-1], t a tuple -/
def tRevT (K : PySem.W.Frag) (te ts : TE) : TE := fun σ H Q => te σ H fun x H1 => ts σ H1 fun y H2 => y = .int (-1) ∧ ∃ a xs, x = .ref a ∧ SqT K H2 a xs ∧ ∀ (p : Addr) (H' : Hp), Same H2 H' → H' p = some (.tup xs.reverse) → Q (.ref p) H'
theorem pe_revT {e st : Expr} {p3 pos : Pos} {te ts : TE} (he : PE X e te) (hs : PE X st ts) : PE X (.Subscript e (.Slice none none (some st) p3) pos) (tRevT X.K te ts) := by
  refine ⟨fun pins s σ H Q I h => ?_⟩
  refine Subscript_ (thn (he.run pins s σ H _ I h) fun v s1 ⟨x, H1, I1, r1, h1⟩ => ?_)
  refine wpAny_Slice ?_
  rw [evalPart_none]
  refine wpAny_pure (wpAny_pure ?_)
  show wpAny _ _ (eval st X.env) _ _ s1
  refine thn (hs.run pins s1 σ H1 _ I1 h1) fun u s2 ⟨y, H2, I2, r2, ey, a, xs, ex, ht, q⟩ => ?_
  subst ey
  subst ex
  obtain ⟨tk, rfl⟩ := r2
  obtain rfl : v = Value.ref a := r1
  have I3 := I2.kept (t' := s2.toks) (h' := s2.heap.push { cls := .type "slice", data := .fields #[.none, .none, .int (-1) tk] }) fun b o e => Heap.get?_push_of_some _ e
  obtain ⟨its, rv, tt, hz⟩ := I3.tuple ht
  have hl := rv.length
  refine tail_any (T := "tuple") tt.typeIs rfl ?_ rfl
  refine getItem_tuple_rev tt (Heap.IsSliceOf.new _ _ _ _) (by simp only [List.size_toArray]; omega) ?_
  generalize s2.heap.push { cls := .type "slice", data := .fields #[.none, .none, .int (-1) tk] } = h3 at I3 tt
  have hn := I3.hok.fresh (Nat.le_refl h3.objs.size)
  exact ⟨.ref h3.objs.size, _, I3.laid (t' := s2.toks) (fun b o e => Heap.get?_push_of_some _ e) (Nat.le_refl _) (show ObjOk X.prog X.w _ _ _ (.tup xs.reverse) from ⟨by rw [List.length_reverse]; exact hz, its.reverse, rv.reverse, IsTup.new _ _⟩), rfl, q _ _ (fun b o e => by rw [upd_ne (ne_of_none e hn)]; exact e) upd_same⟩
end
end L2
namespace Tw
open PySem PySem.Spec PyProof.Rows L2 PySem.W
section
variable {X : Cx} {CX : CXT} {k : Nat} {f C D : Addr} {fd : FuncData} {ps : List Str} {sp : Sp} {E : XK}
theorem op_notIn_own (hd : Dn X.K C "__contains__" f) (F : FnOk X.prog X.w X.K X.mg X.base CX k f fd ps sp) (hr : Room k X.A) (hb : Binds X.K fd ps []) (hx : Passes CX X E) : OpR X (compareOp .NotIn) (rIn C sp E true) := by
  intro pins s σ H x y v u Q I rx ry ⟨a, dx, fs, ey, ha, q⟩
  subst ey
  obtain rfl : u = Value.ref a := ry
  obtain ⟨mA, O, rr, _, _, _⟩ := ins_get I.hok ha
  obtain ⟨od, J, hl⟩ := O.look
  obtain ⟨m0, hF⟩ := I.fr
  refine PySem.W.notIn_K hF I.ok.mod.kin J hd.at_ hd.fn (thn (run_sub F ⟨hr, rfl⟩ hb hx I (.cons (relR a) (.cons rx .nil)) q) fun r s' ⟨z, H', I', rz, b, ez, q'⟩ => ?_)
  subst ez
  obtain rfl : r = Value.bool b := rz
  exact wpAny_truthy_bool ⟨_, _, I', relB (!b), q'⟩
end
end Tw

set_option Elab.async false
set_option linter.all false
set_option maxRecDepth 100000
set_option maxHeartbeats 4000000
/-! min(xs), xs a list of tuples of ints -/
namespace L2
open PySem PySem.Spec PyProof.Rows PySem.W
theorem tupE_lt (p q : List Int) : dataLt (tupE p) (tupE q) = decide (p < q) := by
  show dataLt (.tuple (p.map .int)) (.tuple (q.map .int)) = _
  rw [dataLt_tuple]
  show rowLt (p.map .int) (q.map .int) = _
  rw [dataLt_ints]
theorem minD_tups : ∀ (r : List (List Int)) (b : List Int), ∃ m, minD (tupE b) (r.map tupE) = tupE m ∧ m ∈ b :: r ∧ ∀ z ∈ b :: r, m ≤ z
  | [], b => ⟨b, rfl, List.mem_cons_self, fun z hz => by rw [List.mem_singleton.mp hz]; exact List.le_refl _⟩
  | c :: r, b => by
    have e : minD (tupE b) ((c :: r).map tupE) = minD (if decide (c < b) = true then tupE c else tupE b) (r.map tupE) := by
      show List.foldl _ _ _ = List.foldl _ _ _
      rw [List.map_cons, List.foldl_cons, tupE_lt]
    rw [e]
    by_cases h : c < b
    · rw [if_pos (decide_eq_true h)]
      obtain ⟨m, e1, e2, e3⟩ := minD_tups r c
      refine ⟨m, e1, List.mem_cons_of_mem _ e2, fun z hz => ?_⟩
      rcases List.mem_cons.mp hz with rfl | hz
      · exact List.le_trans (e3 c List.mem_cons_self) (List.le_of_lt h)
      · exact e3 z hz
    · rw [if_neg (fun z => h (of_decide_eq_true z))]
      obtain ⟨m, e1, e2, e3⟩ := minD_tups r b
      refine ⟨m, e1, ?_, fun z hz => ?_⟩
      · rcases List.mem_cons.mp e2 with rfl | e2
        · exact List.mem_cons_self
        · exact List.mem_cons_of_mem _ (List.mem_cons_of_mem _ e2)
      · rcases List.mem_cons.mp hz with rfl | hz
        · exact e3 _ List.mem_cons_self
        · rcases List.mem_cons.mp hz with rfl | hz
          · exact List.le_trans (e3 b List.mem_cons_self) (List.not_lt.mp h)
          · exact e3 z (List.mem_cons_of_mem _ hz)
theorem tupE_depth (b : List Int) : (tupE b).depth ≤ 1 := by
  simp [PyData.depth, depth_ints]
theorem tupE_depths : ∀ bs : List (List Int), PyData.depthAll (bs.map tupE) ≤ 1
  | [] => by simp [PyData.depthAll]
  | b :: bs => by
    have h1 := tupE_depth b
    have h2 := tupE_depths bs
    rw [List.map_cons, PyData.depthAll]
    omega
section
variable {X : Cx} {pins : List (Addr × Obj)} {σ : St} {H : Hp} {s : Shared}
theorem readsAll_tups (I : Inv X pins σ H s) : ∀ {us : List Value} {bs : List (List Int)}, EachIs (TupV X.K H) us bs → ∃ as, ReadsAll s.heap us (bs.map tupE) as
  | _, _, .nil => ⟨_, .nil⟩
  | _, _, .cons h p => by
    obtain ⟨as, r⟩ := tupV_reads I h
    obtain ⟨bs, rs⟩ := readsAll_tups I p
    exact ⟨_, .cons r rs⟩
theorem ints_lay : ∀ ns : List Int, PyData.canLayAll0 (ns.map .int) = true
  | [] => rfl
  | a :: ns => by
    rw [List.map_cons]
    simp [PyData.canLayAll0, PyData.canLay0, ints_lay ns]
theorem pdi_inj : ∀ ms ns : List Int, ms.map PyData.int = ns.map PyData.int → ms = ns
  | [], [], _ => rfl
  | [], b :: ns, h => by simp at h
  | a :: ms, [], h => by simp at h
  | a :: ms, b :: ns, h => by
    rw [List.map_cons, List.map_cons] at h
    injection h with h1 h2
    injection h1 with h1
    rw [h1, pdi_inj ms ns h2]
theorem reads_tup_one {h : Heap} {t : Addr} {ms ns : List Int} {as bs : List Addr} (h1 : Reads h (.ref t) (tupE ms) as) (h2 : Reads h (.ref t) (tupE ns) bs) : ms = ns := by
  have e := SeqAt.ReadsAll.unique [tupE ms] [tupE ns] [.ref t] _ _ (by simp [PyData.canLayAll0, PyData.canLay0, ints_lay]) (.cons h1 .nil) (.cons h2 .nil)
  have e2 := (List.cons.inj e).1
  unfold tupE at e2
  injection e2 with e2
  exact pdi_inj ms ns e2
/-- min(xs) -/
def rMinTA (K : PySem.W.Frag) : List V → Hp → VK → Prop := fun vs H Q => ∃ (a : Addr) (xs : List V) (bs : List (List Int)), vs = [V.ref a] ∧ SqL K H a xs ∧ Paired (TupI K H) xs bs ∧ bs ≠ [] ∧
  ∀ (t : Addr) (m : List Int), SqT K H t (m.map V.int) → m ∈ bs → (∀ z ∈ bs, m ≤ z) → Q (.ref t) H
theorem each_at {R : Value → List Int → Prop} : ∀ {us : List Value} {bs : List (List Int)}, EachIs R us bs → ∀ {i : Nat} {v : Value}, us[i]? = some v → ∃ b, R v b
  | _, _, .nil, i, v, h => by simp at h
  | _, _, .cons h p, 0, v, e => by
    cases e
    exact ⟨_, h⟩
  | _, _, .cons h p, i + 1, v, e => each_at p e
theorem cr_minTA (hh : X.A.handled = none) (hu : X.A.units + 65 < cLine) : CallR X (.builtin "min") (rMinTA X.K) := by
  intro pins s σ H vs us Q I r h
  obtain ⟨a, xs, bs, rfl, hs, hp, hne, q⟩ := h
  obtain ⟨its, rv, hl, hz⟩ := I.list hs
  rw [Vals.ref1 r]
  have e0 : EachIs (TupV X.K H) its bs := tupV_of hp rv
  match bs, hne, e0, q with
  | b :: r, _, e0, q =>
    obtain ⟨as, ra⟩ := readsAll_tups I e0
    obtain ⟨m, em, hm, hle⟩ := minD_tups r b
    refine min_list_data (x := tupE b) (xs := r.map tupE) hh hl.isList (by simpa using ra) ⟨?_, ?_⟩ ?_ fun i v h' tk cs hv hr kp => ?_
    · intro x hx y hy
      rw [← List.map_cons] at hx hy
      obtain ⟨b1, _, rfl⟩ := List.mem_map.mp hx
      obtain ⟨b2, _, rfl⟩ := List.mem_map.mp hy
      simp [alike, alike_ints]
    · intro x hx
      rw [← List.map_cons] at hx
      obtain ⟨b1, _, rfl⟩ := List.mem_map.mp hx
      intro z
      cases z
    · have := tupE_depths (b :: r)
      rw [List.map_cons] at this
      omega
    · have hv' : its[i]? = some v := by simpa using hv
      obtain ⟨ns, t, rfl, ht⟩ := each_at e0 hv'
      rw [em] at hr
      have e1 : ns = m := by
        obtain ⟨bs1, r1⟩ := tupV_reads I ⟨t, rfl, ht⟩
        exact reads_tup_one (reads_keeps kp r1) hr
      subst e1
      exact ⟨.ref t, H, I.kept kp, rfl, q t ns ht hm hle⟩
end
end L2

set_option Elab.async false
set_option linter.all false
set_option maxRecDepth 100000
set_option maxHeartbeats 4000000
/-! t * n, t a tuple, n from 0 on -/
namespace PySem
open PySem PySem.W PySem.AutoSeq1
theorem tuple_mul1 (l : Addr) (items : Array Value) (n : Nat) (dd : Option Addr) (sl : Array (Option Value)) (u : Tok) :
    Meets (Builtin.«tuple.__mul__» ⟨[.ref l, .int 1 u], []⟩) (fun _ R s => s.heap.get? l = some { cls := .type "tuple", dict := dd, data := .seq items n, slots := sl } ∧ R (.ok (.ret (.ref l))) s) :=
  .of_wp fun prog w A R s h => by
    obtain ⟨hp, g, d, tk, os⟩ := s
    obtain ⟨hl, h⟩ := h
    have f1 := idx_int
    have f2 := sub_tuple_tuple
    have h1 : (decide ((1 : Int) < -2 ^ 63) || decide ((1 : Int) ≥ 2 ^ 63)) = false := by decide
    have h2 : (items.isEmpty || (1 : Int) == 1) = true := by simp
    wp_walk using wpAny_loadPart' hl
    exact ⟨_, rfl, h⟩
theorem tuple_mul0 (l : Addr) (items : Array Value) (n : Nat) (dd : Option Addr) (sl : Array (Option Value)) (u : Tok) (hne : items.isEmpty = false) :
    Meets (Builtin.«tuple.__mul__» ⟨[.ref l, .int 0 u], []⟩) (fun _ R s => s.heap.get? l = some { cls := .type "tuple", dict := dd, data := .seq items n, slots := sl } ∧ R (.ok (.ret (.ref s.heap.objs.size))) { s with heap := s.heap.push { cls := .type "tuple", data := .seq #[] 0 } }) :=
  .of_wp fun prog w A R s h => by
    obtain ⟨hp, g, d, tk, os⟩ := s
    obtain ⟨hl, h⟩ := h
    have f1 := idx_int
    have f2 := sub_tuple_tuple
    have h1 : (decide ((0 : Int) < -2 ^ 63) || decide ((0 : Int) ≥ 2 ^ 63)) = false := by decide
    have h2 : (items.isEmpty || (0 : Int) == 1) = false := by simp [hne]
    have h3 : (decide ((0 : Int) ≤ 0) || items.isEmpty) = true := by simp
    wp_walk using wpAny_loadPart' hl
    exact ⟨_, rfl, h⟩
end PySem
namespace L2
open PySem PySem.Spec PyProof.Rows PySem.W
def rRepU : R2 := fun x y H Q => ∃ (l : Addr) (k : Nat) (xs : List V), x = .ref l ∧ y = .int k ∧ H l = some (.tup xs) ∧ xs ≠ [] ∧ k ≤ 1000 ∧ xs.length ≤ 1000 ∧ ∀ t H', Same H H' → H' t = some (.tup (List.replicate k xs).flatten) → Q (.ref t) H'
theorem op_repU {X : Cx} : OpR X (binaryOp .Mult) rRepU := by
  intro pins s σ H x y v u Q I rx ry h
  obtain ⟨l, k, xs, rfl, rfl, hx, hne, hk, hl, q⟩ := h
  by_cases h2 : 2 ≤ k
  · exact op_repT pins s σ H _ _ v u Q I rx ry ⟨l, k, xs, rfl, rfl, SqT.of hx, hne, by omega, by omega, hl, fun p np => q p _ (fun b o e => by rw [upd_ne (ne_of_none e np)]; exact e) (by rw [upd_same, Int.toNat_natCast])⟩
  · cases rx
    obtain ⟨t, rfl⟩ := ry
    obtain ⟨its, rv, tc, hz⟩ := I.tuple (SqT.of hx : SqT X.K H l xs)
    obtain ⟨ob, eb, hc, n2, hd⟩ := id tc
    obtain ⟨cls, dc, data, sl⟩ := ob
    dsimp only at hc hd
    subst hc hd
    have hie : its.toArray.isEmpty = false := by
      have := rv.length
      cases its with
      | nil => exact absurd (List.length_eq_zero_iff.mp this) hne
      | cons a r => rfl
    refine wpAny_binaryOp_repeat_ref (T := "tuple") (U := "int") (by decide +kernel) ⟨_, eb, rfl⟩ (fun _ => rfl) noFill_tuple_mul F.fills_int_mul F.slot_int_rmul repeat_tuple AutoSeq1.idx_int ?_
    refine call_meets F.slot_int_rmul rfl F.entry_int_rmul (F.args_int_rmul_2 _ _) (int_rmul_tuple _ _ _ _ _ _ _) ⟨eb, ?_⟩
    refine ⟨rfl, ⟨_, eb, rfl⟩, ?_⟩
    obtain hk0 | hk1 : k = 0 ∨ k = 1 := by omega
    · subst hk0
      refine call_meets F.slot_tuple_mul ⟨_, eb, rfl⟩ F.entry_tuple_mul (F.args_tuple_mul_2 _ _) (tuple_mul0 _ _ _ _ _ _ hie) ⟨eb, ?_⟩
      have hn := I.hok.fresh (Nat.le_refl s.heap.objs.size)
      exact ⟨.ref s.heap.objs.size, _, I.laid (t' := s.toks) (fun b o e => Heap.get?_push_of_some _ e) (Nat.le_refl _) (show ObjOk X.prog X.w _ _ _ (.tup []) from ⟨Nat.zero_le _, [], .nil, IsTup.new _ _⟩), rfl, q _ _ (fun b o e => by rw [upd_ne (ne_of_none e hn)]; exact e) upd_same⟩
    · subst hk1
      refine call_meets F.slot_tuple_mul ⟨_, eb, rfl⟩ F.entry_tuple_mul (F.args_tuple_mul_2 _ _) (tuple_mul1 _ _ _ _ _ _) ⟨eb, ?_⟩
      refine ⟨.ref l, H, I, rfl, q l H (Same.refl _) ?_⟩
      rw [hx, List.replicate_one, List.flatten_singleton]
end L2

set_option Elab.async false
set_option linter.all false
set_option maxRecDepth 100000
set_option maxHeartbeats 4000000
/-! len of a set; min of a tuple of ints -/
namespace L2
open PySem PySem.Spec PyProof.Rows PySem.W
section
variable {X : Cx}
def rLenSet (w : World) : List V → Hp → VK → Prop := fun xs H Q => ∃ (a : Addr) (S : Int → Bool) (n : Nat), xs = [V.ref a] ∧ H a = some (SetO w a S n) ∧ ∀ ks : List Int, ks.Nodup → (∀ k, S k = true ↔ k ∈ ks) → ks.length = n → Q (.int (n : Nat)) H
theorem cr_lenSet : CallR X (.builtin "len") (rLenSet X.w) := by
  intro pins s σ H xs us Q I r h
  obtain ⟨a, S, n, rfl, e, q⟩ := h
  rw [Vals.ref1 r]
  have ok := I.hok a _ e
  unfold SetO ObjOk at ok
  obtain ⟨⟨o, es, ep, t, h1, h2, h3, h4, h5, h6, h7, h8, h9, _, _⟩, _, _⟩ := ok
  have hb : (es.size : Int) < 2 ^ 63 := by
    have : scanBound ≤ 1048576 := by unfold scanBound; decide
    omega
  refine call_len_set h1 h2 h3 h8 hb ?_
  subst h9
  exact ⟨.int (es.size : Nat), H, I.kept (fun _ _ e => e), ⟨_, rfl⟩, q _ h5 h6 (by rw [List.length_map, Array.length_toList])⟩
theorem reads_int1 {h : Heap} {k m : Int} {t : Tok} {as : List Addr} (r : Reads h (.int k t) (.int m) as) : k = m := by
  cases r
  rfl
theorem readsAll_ints {h : Heap} : ∀ {ns : List Int} {us : List Value}, Vals (ns.map V.int) us → ∃ as, ReadsAll h us (ns.map PyData.int) as
  | [], _, .nil => ⟨_, .nil⟩
  | n :: ns, _, .cons r v => by
    obtain ⟨t, rfl⟩ := r
    obtain ⟨as, ra⟩ := readsAll_ints v
    exact ⟨_, .cons (.int n t) ra⟩
theorem depth_ints0 : ∀ ns : List Int, PyData.depthAll (ns.map PyData.int) ≤ 1
  | [] => by simp [PyData.depthAll]
  | a :: l => by
    have := depth_ints0 l
    rw [List.map_cons, PyData.depthAll]
    simp only [PyData.depth]
    omega
theorem fmin_le : ∀ (l : List Int) (a : Int), l.foldl min a ≤ a ∧ ∀ z ∈ l, l.foldl min a ≤ z
  | [], a => ⟨Int.le_refl _, fun z hz => nomatch hz⟩
  | b :: l, a => by
    obtain ⟨h1, h2⟩ := fmin_le l (min a b)
    rw [List.foldl_cons]
    refine ⟨by omega, fun z hz => ?_⟩
    rcases List.mem_cons.mp hz with rfl | hz
    · omega
    · exact h2 z hz
def rMinTu (K : PySem.W.Frag) : List V → Hp → VK → Prop := fun vs H Q => ∃ (a : Addr) (ns : List Int), vs = [V.ref a] ∧ SqT K H a (ns.map V.int) ∧ ns ≠ [] ∧ ∀ m : Int, m ∈ ns → (∀ z ∈ ns, m ≤ z) → Q (.int m) H
theorem cr_minTu (hh : X.A.handled = none) (hu : X.A.units + 65 < cLine) : CallR X (.builtin "min") (rMinTu X.K) := by
  intro pins s σ H vs us Q I r h
  obtain ⟨a, ns, rfl, hs, hne, q⟩ := h
  obtain ⟨its, rv, tc, hz⟩ := I.tuple hs
  rw [Vals.ref1 r]
  obtain ⟨n, l, rfl⟩ : ∃ n l, ns = n :: l := by
    cases ns with
    | nil => exact absurd rfl hne
    | cons n l => exact ⟨n, l, rfl⟩
  obtain ⟨as, ra⟩ := readsAll_ints (h := s.heap) rv
  refine min_tuple_data (x := .int n) (xs := l.map PyData.int) hh tc (by simpa using ra) ⟨?_, ?_⟩ ?_ fun i v h' tk cs hv hr kp => ?_
  · intro x hx y hy
    rw [← List.map_cons] at hx hy
    obtain ⟨b1, _, rfl⟩ := List.mem_map.mp hx
    obtain ⟨b2, _, rfl⟩ := List.mem_map.mp hy
    simp [alike]
  · intro x hx
    rw [← List.map_cons] at hx
    obtain ⟨b1, _, rfl⟩ := List.mem_map.mp hx
    intro z
    cases z
  · have := depth_ints0 (n :: l)
    rw [List.map_cons] at this
    omega
  · have hv' : its[i]? = some v := by simpa using hv
    have hl := rv.length
    have hi : i < (n :: l).length := by
      rw [List.length_map] at hl
      rw [hl]
      exact (List.getElem?_eq_some_iff.mp hv').1
    obtain ⟨z, ez, rz⟩ := rv.get (i := i) (x := V.int (n :: l)[i]) (by rw [List.getElem?_map, List.getElem?_eq_getElem hi]; rfl)
    rw [hv'] at ez
    cases ez
    obtain ⟨t, rfl⟩ := rz
    rw [minD_ints] at hr
    obtain ⟨h1, h2⟩ := fmin_le l n
    have e : (n :: l)[i] = l.foldl min n := reads_int1 hr
    exact ⟨.int _, H, I.kept kp, ⟨t, rfl⟩, q _ (List.getElem_mem hi) fun z hz => by
      rw [e]
      rcases List.mem_cons.mp hz with rfl | hz
      · exact h1
      · exact h2 z hz⟩
end
end L2

set_option Elab.async false
set_option linter.all false
set_option maxRecDepth 100000
set_option maxHeartbeats 2000000
/-! own rules: slices of tuples that are known to have no dict; t.index(text) -/
namespace L2
open PySem PySem.Spec PyProof.Rows L2
section
variable {X : Cx}
def rSlF (K : PySem.W.Frag) : V → Option Int → Option Int → Hp → VK → Prop := fun x lo hi H Q => ∃ a xs, x = .ref a ∧ SqT K H a xs ∧
  ¬ (HT.sIx xs.length 0 lo = 0 ∧ HT.sIx xs.length xs.length hi = xs.length) ∧ ∀ p o, H p = none → o.dict = none → Q (.ref p) (upd H p (.frz o (.tup (cutV xs lo hi))))
theorem sl_tupF : SlR X (rSlF X.K) := by
  intro pins s σ H x v vl vu lo hi sl Q I rx hs pl pu h
  obtain ⟨a, xs, rfl, hx, hw, q⟩ := h
  cases rx
  obtain ⟨its, r, ht, hz⟩ := I.tuple hx
  have hlen : its.toArray.size = xs.length := by rw [List.size_toArray]; exact r.length.symm
  refine ⟨"tuple", _, PyProof.Rows.slot_tuple_getitem.lookup, ht.typeIs, ?_⟩
  refine HT.getItem_tuple_cut ht hs pl pu (by rw [hlen]; exact hw) ?_ (by rw [hlen]; exact hz)
  rw [hlen]
  have hv := (r.drop (HT.sIx xs.length 0 lo)).take (HT.sIx xs.length xs.length hi - HT.sIx xs.length 0 lo)
  refine ⟨.ref s.heap.objs.size, _, I.laid (t' := s.toks) (o := .frz { cls := .type "tuple", data := .seq (((its.drop (HT.sIx xs.length 0 lo)).take (HT.sIx xs.length xs.length hi - HT.sIx xs.length 0 lo)).toArray) } (.tup (cutV xs lo hi))) (fun b ob q => Heap.get?_push_of_some _ q) (Nat.le_refl _) ?_, rfl, q _ _ (I.hok.fresh (Nat.le_refl _)) rfl⟩
  exact ⟨Heap.get?_push_size _ rfl, Nat.le_trans (cutV_length xs lo hi) hz, _, hv, IsTup.new _ _⟩
/-- t.index(x), texts, x there -/
def rIndexS (K : PySem.W.Frag) : V → List V → Hp → VK → Prop := fun x vs H Q => ∃ (a : Addr) (ns : List Str) (k : Str) (j : Nat), x = .ref a ∧ vs = [.str k] ∧ SqT K H a (ns.map V.str) ∧ (∀ z ∈ ns, (PyData.str z).canLay0 = true) ∧ ns[j]? = some k ∧ (∀ m, m < j → ns[m]? ≠ some k) ∧ Q (.int (j : Nat)) H
theorem dpAll_strs (K : PySem.W.Frag) (H : Hp) : ∀ ns : List Str, DpAll K H (ns.map V.str) (ns.map PyData.str)
  | [] => .nil
  | n :: ns => .cons (.str n) (dpAll_strs K H ns)
theorem lay_strs : ∀ ns : List Str, (∀ z ∈ ns, (PyData.str z).canLay0 = true) → PyData.canLayAll0 (ns.map PyData.str) = true
  | [], _ => rfl
  | n :: ns, h => by
    rw [List.map_cons, PyData.canLayAll0, lay_strs ns (fun z hz => h z (List.mem_cons_of_mem _ hz)), h n List.mem_cons_self]
    rfl
theorem str_beq (a b : Str) : PyData.eqv (.str a) (.str b) = (a == b) := rfl
theorem mt_indexTS (hu : X.A.units + 65 < cLine) : MtR X "tuple.index" (rIndexS X.K) := by
  intro pins s σ H x xs v us Q I rx rxs h
  obtain ⟨a, ns, k, j, rfl, rfl, hl, hlay, hj, hno, q⟩ := h
  cases rx
  cases rxs with
  | cons ry rt =>
    rename_i uy ut
    cases rt
    obtain ⟨its, rv, pl, hlen⟩ := I.tuple hl
    obtain ⟨as, h4⟩ := Dp.readsAll I (ns.map PyData.str) _ its (dpAll_strs _ _ ns) rv
    obtain ⟨bs, r1⟩ := Dp.reads I (.str k) _ uy (.str k) ry
    have hjl := (List.getElem?_eq_some_iff.mp hj).1
    have hvl := rv.length
    rw [List.length_map] at hvl hlen
    obtain ⟨⟨cls, dd, data, sl⟩, ho, hc, n, hd'⟩ := id pl
    simp only at hc hd'
    subst hc hd'
    have hxs : PyData.canLayAll0 (ns.map PyData.str) = true := lay_strs ns hlay
    have hmap : its.map (SeqAt.readOf s.heap) = ns.map PyData.str := SeqAt.readsAll_map _ its as hxs h4
    have at_ : ∀ (m : Nat) (hm : m < its.toArray.size) (z : Str), ns[m]? = some z → SeqAt.readOf s.heap its.toArray[m] = .str z := by
      intro m hm z hz
      have hml : m < its.length := by simpa using hm
      have e1 : (its.map (SeqAt.readOf s.heap))[m]? = some (.str z) := by rw [hmap, List.getElem?_map, hz]; rfl
      rw [List.getElem?_map, List.getElem?_eq_getElem hml] at e1
      have e2 : SeqAt.readOf s.heap its[m] = .str z := Option.some.inj e1
      simpa using e2
    have hj2 : j < its.toArray.size := by simp only [List.size_toArray]; omega
    refine call_meets F.slot_tuple_index ⟨_, ho, rfl⟩ F.entry_tuple_index (F.args_tuple_index_2 _ _)
      (TI.tuple_indexAt a its.toArray n dd sl uy (fun u => PyData.eqv (SeqAt.readOf s.heap u) (.str k)) j hj2 ?_ ?_) ⟨ho, SeqAt.items_eqAt (vs := its.toArray) (show ReadsAll s.heap its.toArray.toList (ns.map PyData.str) as from h4) r1 hxs (hlay k (List.mem_of_getElem? hj)) (Nat.lt_of_le_of_lt (Nat.add_le_add_left (Nat.min_le_right _ _) _) (by simp only [PyData.depth]; omega)), ?_⟩
    · show PyData.eqv (SeqAt.readOf s.heap its.toArray[j]) (.str k) = true
      rw [at_ j hj2 k hj]
      show (k == k) = true
      exact beq_self_eq_true k
    · intro m hm hmj
      have hmn : m < ns.length := by simp only [List.size_toArray] at hm; omega
      have hz : ns[m]? = some ns[m] := List.getElem?_eq_getElem hmn
      show PyData.eqv (SeqAt.readOf s.heap its.toArray[m]) (.str k) = false
      rw [at_ m hm _ hz]
      show (ns[m] == k) = false
      exact beq_eq_false_iff_ne.mpr fun z => hno m hmj (by rw [hz, z])
    · exact ⟨.int (j : Nat), H, I.tok _, ⟨_, rfl⟩, q⟩
end
theorem sameUp {H : Hp} {p : Addr} {o : HO} (np : H p = none) : Same H (upd H p o) := fun b u e => by
  rw [upd_ne (fun z => by rw [z, np] at e; cases e)]
  exact e
def rListK (K : PySem.W.Frag) : List V → Hp → VK → Prop := fun xs H Q => ∃ p ys, xs = [.ref p] ∧ (SqL K H p ys ∨ SqT K H p ys) ∧ ∀ l, H l = none → Q (.ref l) (upd H l (.lst ys))
theorem call_listK {X : Cx} : CallR X (.type "list") (rListK X.K) := call_list_of
def rTupK (K : PySem.W.Frag) : List V → Hp → VK → Prop := fun xs H Q => ∃ p ys, xs = [.ref p] ∧ ((SqL K H p ys ∧ ∀ l, H l = none → Q (.ref l) (upd H l (.tup ys))) ∨ (SqT K H p ys ∧ Q (.ref p) H))
theorem call_tupleK {X : Cx} : CallR X (.type "tuple") (rTupK X.K) := call_tuple_of
def tTruL (K : PySem.W.Frag) (ta : TE) : L2.TT := fun σ H Q => ta σ H fun x H' => ∃ k, TruV K x H' k ∧ Q k H'
theorem pt_truL {X : Cx} {K : PySem.W.Frag} {a : Expr} {ta : TE} (hK : X.K = K) (ha : PE X a ta) (he : ∀ whole, isTrue a X.env whole = (do let v ← whole; standAt a.pos; holding [v] (truthy v))) : PT X a (tTruL K ta) := by
  subst hK
  exact pt_truth ha he
/-! slices and sums of tuples, whichever object comes of them -/
theorem SqT.whole {xs : List V} {lo hi : Option Int} (h : HT.sIx xs.length 0 lo = 0 ∧ HT.sIx xs.length xs.length hi = xs.length) : cutV xs lo hi = xs := by
  unfold cutV
  rw [h.1, h.2, List.drop_zero, Nat.sub_zero, List.take_length]
theorem slA {K : PySem.W.Frag} {H : Hp} {a : Addr} {xs : List V} {lo hi : Option Int} {Q : VK} (ha : SqT K H a xs) (q : ∀ (H' : Hp) (p : Addr), Same H H' → SqT K H' p (cutV xs lo hi) → Q (.ref p) H') : rSlA K (.ref a) lo hi H Q :=
  ⟨a, xs, rfl, ha, fun h => q H a (Same.refl _) (by rw [SqT.whole h]; exact ha), fun _ p np => q _ p (sameUp np) (SqT.of upd_same)⟩
/-- the same, the new tuple standing by itself where the old one does -/
theorem slA' {K : PySem.W.Frag} {H : Hp} {a : Addr} {xs : List V} {lo hi : Option Int} {Q : VK} (ha : H a = some (.tup xs)) (q : ∀ (H' : Hp) (p : Addr), Same H H' → H' p = some (.tup (cutV xs lo hi)) → Q (.ref p) H') : rSlA K (.ref a) lo hi H Q :=
  ⟨a, xs, rfl, SqT.of ha, fun h => q H a (Same.refl _) (by rw [SqT.whole h]; exact ha), fun _ p np => q _ p (sameUp np) upd_same⟩
theorem catA {K : PySem.W.Frag} {H : Hp} {a b : Addr} {xs ys : List V} {Q : VK} (ha : SqT K H a xs) (hb : SqT K H b ys) (hl : xs.length + ys.length ≤ sizeLine) (q : ∀ (H' : Hp) (p : Addr), Same H H' → SqT K H' p (xs ++ ys) → Q (.ref p) H') : rCatA K (.ref a) (.ref b) H Q :=
  ⟨a, b, xs, ys, rfl, rfl, ha, hb, hl, fun h => q H b (Same.refl _) (by rw [h]; exact hb), fun _ h => q H a (Same.refl _) (by rw [h, List.append_nil]; exact ha), fun _ _ p np => q _ p (sameUp np) (SqT.of upd_same)⟩
theorem catA' {K : PySem.W.Frag} {H : Hp} {a b : Addr} {xs ys : List V} {Q : VK} (ha : H a = some (.tup xs)) (hb : H b = some (.tup ys)) (hl : xs.length + ys.length ≤ sizeLine) (q : ∀ (H' : Hp) (p : Addr), Same H H' → H' p = some (.tup (xs ++ ys)) → Q (.ref p) H') : rCatA K (.ref a) (.ref b) H Q :=
  ⟨a, b, xs, ys, rfl, rfl, SqT.of ha, SqT.of hb, hl, fun h => q H b (Same.refl _) (by rw [h]; exact hb), fun _ h => q H a (Same.refl _) (by rw [h, List.append_nil]; exact ha), fun _ _ p np => q _ p (sameUp np) upd_same⟩
theorem sIx_m1 {n : Nat} (d : Nat) (h : 1 ≤ n) : HT.sIx n d (some (-1)) = n - 1 := by
  unfold HT.sIx
  simp
  omega
theorem cutv_to (xs : List V) (k : Nat) : cutV xs none (some (k : Int)) = xs.take k := by
  unfold cutV
  rw [HT.sIx_none, HT.sIx_nat, List.drop_zero, Nat.sub_zero]
  by_cases h : k ≤ xs.length
  · rw [Nat.min_eq_left h]
  · rw [Nat.min_eq_right (by omega), List.take_length, List.take_of_length_le (by omega)]
theorem cutv_from (xs : List V) (k : Nat) : cutV xs (some (k : Int)) none = xs.drop k := by
  unfold cutV
  rw [HT.sIx_none, HT.sIx_nat]
  by_cases h : k ≤ xs.length
  · rw [Nat.min_eq_left h, List.take_of_length_le (by rw [List.length_drop]; omega)]
  · rw [Nat.min_eq_right (by omega), Nat.sub_self, List.take_zero, List.drop_eq_nil_of_le (by omega)]
theorem cutv_init {xs : List V} (h : 1 ≤ xs.length) : cutV xs none (some (-1)) = xs.dropLast := by
  unfold cutV
  rw [HT.sIx_none, sIx_m1 _ h, List.drop_zero, Nat.sub_zero, List.dropLast_eq_take]
theorem not_whole_init {n : Nat} (h : 1 ≤ n) : ¬ (HT.sIx n 0 none = 0 ∧ HT.sIx n n (some (-1)) = n) := by
  rw [sIx_m1 _ h]
  omega
theorem atV_last {α : Type} (f : α → V) (d : α) {xs : List α} (h : 1 ≤ xs.length) : atI (xs.map f) (-1) = some (f (xs.getLastD d)) := by
  unfold atI ixN
  rw [if_neg (by omega), if_pos (by rw [List.length_map]; omega), List.length_map, show ((-1 : Int) + (xs.length : Nat)).toNat = xs.length - 1 by omega]
  show (xs.map f)[xs.length - 1]? = _
  rw [List.getElem?_map, List.getElem?_eq_getElem (by omega), List.getLastD_eq_getLast?, List.getLast?_eq_getElem?, List.getElem?_eq_getElem (by omega)]
  rfl
theorem atV_nat {α : Type} (f : α → V) (d : α) {xs : List α} {i : Nat} (h : i < xs.length) : atI (xs.map f) (i : Int) = some (f (xs.getD i d)) := by
  refine atI_nat ?_
  rw [List.getElem?_map, List.getElem?_eq_getElem h, List.getD_eq_getElem?_getD, List.getElem?_eq_getElem h]
  rfl
end L2

set_option Elab.async false
set_option linter.all false
set_option maxRecDepth 100000
set_option maxHeartbeats 400000
/-! zip(xs, t): each a list or a tuple, told by a Bool (true: a tuple) -/
namespace Zm
open PySem PySem.Spec PyProof.Rows L2
open PySem.Sem (wp)
def SqM (K : PySem.W.Frag) (t : Bool) (H : Hp) (a : Addr) (xs : List V) : Prop := match t with
  | true => SqT K H a xs
  | false => SqL K H a xs
def hSq (t : Bool) (h : Heap) (a : Addr) (xs : Array Value) : Prop := match t with
  | true => h.IsTuple a xs
  | false => h.IsList a xs
def hIt (t : Bool) (h : Heap) (it a : Addr) (i : Nat) : Prop := match t with
  | true => h.IsTupleIter it a i
  | false => h.IsListIter it a i
def nIt (t : Bool) : String := if t then "tuple_iterator" else "list_iterator"
def oIt (t : Bool) (a : Addr) : Obj := { cls := .type (nIt t), data := .fields #[.ref a, .int 0 0] }
theorem hIt_young {t : Bool} {h : Heap} {it a : Addr} (e : h.get? it = some (oIt t a)) : hIt t h it a 0 := by
  cases t <;> exact ⟨_, e, rfl, rfl⟩
theorem hIt_there {t : Bool} {h : Heap} {it a : Addr} {i : Nat} (e : hIt t h it a i) : ∃ o, h.get? it = some o ∧ ∀ v, o.data ≠ .cell v := by
  cases t <;> (obtain ⟨o, e1, _, d⟩ := e; exact ⟨o, e1, fun v q => by rw [d] at q; cases q⟩)
theorem hIt_at {t : Bool} {h h' : Heap} {it a : Addr} {i : Nat} (e : hIt t h it a i) (k : ∀ o, h.get? it = some o → h'.get? it = some o) : hIt t h' it a i := by
  cases t
  · exact Heap.IsListIter.at e k
  · exact Heap.IsTupleIter.at e k
theorem hSq_lt {t : Bool} {h : Heap} {a : Addr} {xs : Array Value} (e : hSq t h a xs) : a < h.objs.size := by
  cases t <;> (obtain ⟨o, e1, _⟩ := e; exact Heap.lt_size e1)
theorem hSq_up {t : Bool} {h h' : Heap} {a : Addr} {xs : Array Value} (e : hSq t h a xs) (k : ∀ o, h.get? a = some o → h'.get? a = some o) : hSq t h' a xs := by
  cases t <;> (obtain ⟨o, e1, r⟩ := e; exact ⟨o, k _ e1, r⟩)
theorem sq_get {X : Cx} {pins : List (Addr × Obj)} {σ : L2.St} {H : Hp} {s : Shared} {t : Bool} {a : Addr} {xs : List V} (I : Inv X pins σ H s) (q : SqM X.K t H a xs) :
    ∃ its : List Value, Vals xs its ∧ hSq t s.heap a its.toArray := by
  cases t
  · obtain ⟨its, rv, p, _⟩ := I.list q
    exact ⟨its, rv, p.isList⟩
  · obtain ⟨its, rv, p, _⟩ := I.tuple q
    exact ⟨its, rv, p⟩
theorem sq_one {X : Cx} {pins : List (Addr × Obj)} {σ : L2.St} {H : Hp} {s : Shared} {t : Bool} {a : Addr} {xs ys : List V} (I : Inv X pins σ H s) (q : SqM X.K t H a xs) (q2 : SqM X.K t H a ys) : xs = ys := by
  cases t
  · exact I.list_inj q q2
  · exact I.tuple_inj q q2
section
variable {prog : Program} {w : World} {A : Around}
theorem drawM (hh : A.handled = none) (t : Bool) (it a : Addr) (hne : a ≠ it) (items : Array Value) :
    Draws prog w A it [it, a] items.size (fun i v => items[i]? = some v) (fun i h => hIt t h it a i ∧ hSq t h a items) := by
  cases t
  · exact Draws.list hh it a hne items
  · exact Draws.tuple hh it a hne items
theorem newM {E : Value → Shared → Prop} {s : Shared} {t : Bool} {a : Addr} {items : Array Value} {Q : Value → Shared → Prop} (hl : hSq t s.heap a items)
    (hQ : Q (.ref s.heap.objs.size) { s with heap := s.heap.push (oIt t a) }) : wpAny (model prog w) A (pyIter (.ref a)) Q E s := by
  cases t
  · exact wpAny_pyIter_list hl hQ
  · exact wpAny_pyIter_tuple hl hQ
end
/-- the five new things, one behind the other -/
def zNew (n : Nat) (t1 t2 : Bool) (a b : Addr) : List Obj :=
  [oIt t1 a, oIt t2 b, { cls := .type "tuple", data := .seq #[.ref n, .ref (n + 1)] }, { cls := .type "tuple", data := .seq #[.none, .none] },
   { cls := .type "zip", data := .fields #[.none, .bool false, .bool false, .ref (n + 2), .ref (n + 3)] }]
def pushes (h : Heap) (os : List Obj) : Heap := os.foldl Heap.push h
theorem pushes_size : ∀ (os : List Obj) (h : Heap), (pushes h os).objs.size = h.objs.size + os.length
  | [], _ => rfl
  | o :: os, h => by
    show (pushes (h.push o) os).objs.size = _
    rw [pushes_size os, Heap.size_push, List.length_cons]
    omega
theorem pushes_keep : ∀ (os : List Obj) (h : Heap) (c : Addr) (o : Obj), h.get? c = some o → (pushes h os).get? c = some o
  | [], _, _, _, e => e
  | _ :: os, h, c, o, e => pushes_keep os _ c o (Heap.get?_push_of_some _ e)
theorem pushes_get (os : List Obj) : ∀ (h : Heap) (i : Nat) (o : Obj), os[i]? = some o → o.isFreed = false → (pushes h os).get? (h.objs.size + i) = some o := by
  induction os with
  | nil => intro h i o e _; cases e
  | cons p os ih =>
    intro h i o e f
    cases i with
    | zero =>
      have e : some p = some o := e
      injection e with e
      rw [e]
      exact pushes_keep os (h.push o) _ _ (Heap.get?_push_size _ f)
    | succ i =>
      have r := ih (h.push p) i o e f
      have z : (h.push p).objs.size + i = h.objs.size + (i + 1) := by rw [Heap.size_push]; omega
      rw [z] at r
      exact r
theorem nA {x y : Nat} (h : x < y ∨ y < x) : ¬ @Eq Addr x y := fun e => by
  have e : @Eq Nat x y := e
  omega
theorem meets_new (t1 t2 : Bool) (a b : Addr) (xs ys : Array Value) :
    Meets (Builtin.«zip.__new__» ⟨[.type "zip", .ref a, .ref b], []⟩) (fun _ R s => hSq t1 s.heap a xs ∧ hSq t2 s.heap b ys ∧
      R (.ok (.ret (.ref (s.heap.objs.size + 4)))) { s with heap := pushes s.heap (zNew s.heap.objs.size t1 t2 a b) }) :=
  .of_wp fun prog w A R s h => by
    obtain ⟨hp, g, d, tk, os⟩ := s
    obtain ⟨h1, h2, h⟩ := h
    have hsub := sub_zip
    have h2 : hSq t2 (hp.push (oIt t1 a)) b ys := hSq_up h2 fun o e => Heap.get?_push_of_some _ e
    have q1 : ∀ {A' : Around} {E : Value → Shared → Prop} {Q : Value → Shared → Prop}, Q (.ref hp.objs.size) ⟨hp.push (oIt t1 a), g, d, tk, os⟩ → wpAny (model prog w) A' (pyIter (.ref a)) Q E ⟨hp, g, d, tk, os⟩ :=
      fun q => newM (s := ⟨hp, g, d, tk, os⟩) h1 q
    have q2 : ∀ {A' : Around} {E : Value → Shared → Prop} {Q : Value → Shared → Prop}, Q (.ref (hp.push (oIt t1 a)).objs.size) ⟨(hp.push (oIt t1 a)).push (oIt t2 b), g, d, tk, os⟩ → wpAny (model prog w) A' (pyIter (.ref b)) Q E ⟨hp.push (oIt t1 a), g, d, tk, os⟩ :=
      fun q => newM (s := ⟨hp.push (oIt t1 a), g, d, tk, os⟩) h2 q
    wp_walk using q1, q2
    refine ⟨_, rfl, ?_⟩
    have z1 : ∀ (h : Heap) (o : Obj), (h.push o).objs.size = h.objs.size + 1 := fun h o => Heap.size_push ..
    simp only [z1]
    exact h
section
variable {prog : Program} {w : World} {A : Around} {E : Value → Shared → Prop} {s : Shared}
theorem callM {t1 t2 : Bool} {a b : Addr} {xs ys : Array Value} {Q : Value → Shared → Prop} (h1 : hSq t1 s.heap a xs) (h2 : hSq t2 s.heap b ys)
    (h : Q (.ref (s.heap.objs.size + 4)) { s with heap := pushes s.heap (zNew s.heap.objs.size t1 t2 a b) }) :
    wpAny (model prog w) A (call (.type "zip") [.ref a, .ref b]) Q E s := by
  refine callType_new F.called_zip (by decide) (F.typeCall_zip_2 _ _) (F.newCall_zip_2 _ _) (fun obj => F.args_object_init_3 obj _ _) F.entry_zip_new
    (meets_new t1 t2 a b xs ys) ⟨h1, h2, ⟨_, pushes_get (zNew s.heap.objs.size t1 t2 a b) s.heap 4 _ rfl rfl, rfl⟩, h⟩
end
/-- a turn's pair is new -/
def ItM (K : PySem.W.Frag) (t1 t2 : Bool) (a b : Addr) : It :=
  ⟨fun i H => ∃ xs ys : List V, SqM K t1 H a xs ∧ SqM K t2 H b ys ∧ i < min xs.length ys.length,
    fun i H v H' => ∃ (T : Addr) (x y : V), v = .ref T ∧ H T = none ∧ H' = upd H T (.tup [x, y]) ∧ (∀ xs, SqM K t1 H a xs → xs[i]? = some x) ∧ ∀ ys, SqM K t2 H b ys → ys[i]? = some y,
    fun i H => ∃ xs ys : List V, SqM K t1 H a xs ∧ SqM K t2 H b ys ∧ i = min xs.length ys.length⟩
def StM (t1 t2 : Bool) (n : Nat) (a b : Addr) (i : Nat) (h : Heap) : Prop :=
  IsZip h (n + 4) (n + 2) (n + 3) .none ∧ IsTupOf2 h (n + 2) (.ref n) (.ref (n + 1)) ∧ (∃ x y, IsTupOf2 h (n + 3) x y) ∧ hIt t1 h n a i ∧ hIt t2 h (n + 1) b i
def five (n : Nat) : List Addr := [n + 4, n + 2, n + 3, n, n + 1]
theorem sepM {n a b : Nat} (ha : a < n) (hb : b < n) : ZipSep2 (n + 4) (n + 2) (n + 3) n (n + 1) [n, a] [n + 1, b] := by
  constructor <;> simp only [List.mem_cons, List.not_mem_nil, or_false, ne_eq, not_or, true_or, or_true] <;> first | exact nA (by omega) | exact ⟨nA (by omega), nA (by omega)⟩
theorem turnM {P : Program} {w : World} {K : PySem.W.Frag} {elts : List Expr} {kk : Nat} {tpos : Pos} {t1 t2 : Bool} {n a b : Nat} (ha : a < n) (hb : b < n) :
    Turn P w K (.Tuple elts kk tpos) (ItM K t1 t2 a b) (five n) (n + 4) (StM t1 t2 n a b) where
  mem := List.mem_cons_self
  obj := fun i h st c hc => by
    obtain ⟨g1, g2, ⟨x, y, g3⟩, g4, g5⟩ := st
    simp only [five, List.mem_cons, List.not_mem_nil, or_false] at hc
    rcases hc with q | q | q | q | q <;> subst q
    · exact ⟨_, g1, fun v q => nomatch q⟩
    · exact ⟨_, g2, fun v q => nomatch q⟩
    · exact ⟨_, g3, fun v q => nomatch q⟩
    · exact hIt_there g4
    · exact hIt_there g5
  keep := fun i h h' st k => by
    obtain ⟨g1, g2, ⟨x, y, g3⟩, g4, g5⟩ := st
    have k : ∀ d ∈ five n, ∀ o, h.get? d = some o → h'.get? d = some o := k
    simp only [five, List.forall_mem_cons, List.not_mem_nil] at k
    exact ⟨k.1 _ g1, k.2.1 _ g2, ⟨x, y, k.2.2.1 _ g3⟩, hIt_at g4 k.2.2.2.1, hIt_at g5 k.2.2.2.2.1⟩
  item := by
    intro X hP hw hK hc i pins s σ H E I hf st hg
    subst hP hw hK
    obtain ⟨g1, g2, ⟨x0, y0, g3⟩, g4, g5⟩ := st
    obtain ⟨xs, ys, qx, qy, hi⟩ := hg
    obtain ⟨us, rx, px⟩ := sq_get I qx
    obtain ⟨vs, ry, py⟩ := sq_get I qy
    have lx := rx.length
    have ly := ry.length
    have hdl : X.A.in1.handled = none := I.ok.hd hc
    refine wpAny_pyNext_zipD2_item (sepM ha hb) (drawM hdl t1 n a (Nat.ne_of_lt ha) us.toArray) (drawM hdl t2 (n + 1) b (Nat.ne_of_lt (Nat.lt_succ_of_lt hb)) vs.toArray) g1 g2 g3 ⟨g4, px⟩ ⟨g5, py⟩
      (by rw [List.size_toArray]; omega) (by rw [List.size_toArray]; omega) fun u v h' tk hu hv z1 z3 d1 d2 hT hsz hk => ?_
    have hzl : n + 4 < s.heap.objs.size := Heap.lt_size g1
    refine ⟨_, rfl, wpAny_letOwnedTupleGo_zip (s := { s with heap := h', toks := tk }) z1 fun h2 z2 sb => ?_⟩
    have hT2 : h2.get? s.heap.objs.size = some { cls := .type "tuple", data := .seq #[u, v] } := (sb.2 _ (Nat.ne_of_gt hzl)).trans hT
    obtain ⟨x, ex, rux⟩ : ∃ x, xs[i]? = some x ∧ RelV x u := by
      obtain ⟨u', hu', ru⟩ := rx.get (List.getElem?_eq_getElem (show i < xs.length by omega))
      have : us[i]? = some u := by simpa using hu
      rw [this] at hu'
      cases hu'
      exact ⟨_, List.getElem?_eq_getElem _, ru⟩
    obtain ⟨y, ey, rvy⟩ : ∃ y, ys[i]? = some y ∧ RelV y v := by
      obtain ⟨v', hv', rv⟩ := ry.get (List.getElem?_eq_getElem (show i < ys.length by omega))
      have : vs[i]? = some v := by simpa using hv
      rw [this] at hv'
      cases hv'
      exact ⟨_, List.getElem?_eq_getElem _, rv⟩
    have out : ∀ c, c ∉ five n → c ≠ n + 4 ∧ c ≠ n + 3 ∧ c ≠ n ∧ c ≠ n + 1 := fun c hc => by
      simp only [five, List.mem_cons, List.not_mem_nil, or_false, not_or] at hc
      exact ⟨hc.1, hc.2.2.1, hc.2.2.2.1, hc.2.2.2.2⟩
    have young : ObjOk X.prog X.w (upd H s.heap.objs.size (.tup [x, y])) h2 s.heap.objs.size (.tup [x, y]) :=
      ⟨by show 2 ≤ sizeLine; decide, [u, v], .cons rux (.cons rvy .nil), ⟨_, hT2, rfl, _, rfl⟩⟩
    have I1 : Inv X pins σ (upd H s.heap.objs.size (.tup [x, y])) { s with heap := h2, toks := tk } :=
      I.turnedNew (t' := tk) (ch := five n) (fun c o hb q => by
        obtain ⟨c1, c2, c3, c4⟩ := out c hb
        exact (sb.2 c c1).trans (hk c o c1 c2 c3 c4 q)) hf (Nat.le_refl _) young
    refine ⟨.ref s.heap.objs.size, _, I1, rfl, ⟨_, x, y, rfl, I.hok.fresh (Nat.le_refl _), rfl, fun l hl => by rw [sq_one I hl qx]; exact ex, fun l hl => by rw [sq_one I hl qy]; exact ey⟩, ?_, fun c hcm => ?_⟩
    · have sbk : ∀ c o, c ≠ n + 4 → h'.get? c = some o → h2.get? c = some o := fun c o hc e => (sb.2 c hc).trans e
      have dz : ∀ k : Nat, @LT.lt Nat _ k 4 → ¬ @Eq Addr (n + k) (n + 4) := fun k hk => nA (by omega)
      exact ⟨z2, sbk _ _ (dz 2 (by decide)) (hk _ _ (dz 2 (by decide)) (@nA (n + 2) (n + 3) (by omega)) (@nA (n + 2) n (by omega)) (@nA (n + 2) (n + 1) (by omega)) g2), ⟨u, v, sbk _ _ (dz 3 (by decide)) z3⟩, hIt_at d1.1 fun o e => sbk _ _ (dz 0 (by decide)) e, hIt_at d2.1 fun o e => sbk _ _ (dz 1 (by decide)) e⟩
    · have hlt : c < s.heap.objs.size := by
        have hzl : @LT.lt Nat _ (n + 4) s.heap.objs.size := hzl
        simp only [five, List.mem_cons, List.not_mem_nil, or_false] at hcm
        rcases hcm with q | q | q | q | q <;> subst q <;> show @LT.lt Nat _ _ _ <;> omega
      rw [upd_ne (Nat.ne_of_lt hlt)]
      exact (hf c hcm).1
  done := by
    intro X hP hw hK hc i pins s σ H E I hf st hg
    subst hP hw hK
    obtain ⟨g1, g2, ⟨x0, y0, g3⟩, g4, g5⟩ := st
    obtain ⟨xs, ys, qx, qy, hi⟩ := hg
    obtain ⟨us, rx, px⟩ := sq_get I qx
    obtain ⟨vs, ry, py⟩ := sq_get I qy
    have lx := rx.length
    have ly := ry.length
    have hdl : X.A.in1.handled = none := I.ok.hd hc
    refine wpAny_pyNext_zipD2_end (sepM ha hb) (drawM hdl t1 n a (Nat.ne_of_lt ha) us.toArray) (drawM hdl t2 (n + 1) b (Nat.ne_of_lt (Nat.lt_succ_of_lt hb)) vs.toArray) g1 g2 g3 ⟨g4, px⟩ ⟨g5, py⟩
      (by rw [List.size_toArray]; omega) (by rw [List.size_toArray]; omega) (by rw [List.size_toArray, List.size_toArray]; omega) fun h' tk hk => ⟨rfl, I.turnedL (t' := tk) (ch := five n) (fun c o hb q => ?_) hf⟩
    simp only [five, List.mem_cons, List.not_mem_nil, or_false, not_or] at hb
    exact hk c o hb.1 hb.2.2.1 hb.2.2.2.1 hb.2.2.2.2 q
  self := fun A i s Q E st h => wpAny_pyIter_zip st.1 h
def iZipM (K : PySem.W.Frag) (t1 t2 : Bool) (ta : TA) : TI := fun σ H R => ta σ H fun vs H1 => ∃ (a b : Addr) (xs ys : List V), vs = [.ref a, .ref b] ∧ SqM K t1 H1 a xs ∧ SqM K t2 H1 b ys ∧ R (ItM K t1 t2 a b) H1
theorem pi_zipM {X : Cx} (t1 t2 : Bool) {e e2 : Expr} {ta : TA} {p pos tpos : Pos} {elts : List Expr} {kk : Nat} (hg : Gl X "zip") (hm : X.mg "zip" = none) (ha : PA X [e, e2] ta)
    (hs : starEach [e, e2] X.env = (false, eval e X.env) :: starEach [e2] X.env := by rfl) (hpl : (backTo pos (starEach [e2] X.env)).any (·.1) = false := by rfl) :
    PI X (.Tuple elts kk tpos) (.Call (.Name "zip" p) [e, e2] [] pos) (iZipM X.K t1 t2 ta) := by
  refine ⟨fun pins s σ H R I h => ?_⟩
  refine Call_ (ld_blt I hg hm PyProof.Rows.boot_zip (PyProof.Rows.callWith_type1 (thn (ha.run pos pins s σ H _ I h) fun us s1 ⟨vs, H1, I1, r1, q1⟩ => ?_) hs hpl))
  obtain ⟨a, b, xs, ys, rfl, qx, qy, q⟩ := q1
  obtain ⟨u1, us, rfl, r, r1⟩ : ∃ u1 us', us = u1 :: us' ∧ RelV (.ref a) u1 ∧ Vals [.ref b] us' := by cases r1 with | cons r rr => exact ⟨_, _, rfl, r, rr⟩
  obtain ⟨u2, rfl, r2⟩ := vals1 r1
  cases r
  cases r2
  obtain ⟨is1, rx, px⟩ := sq_get I1 qx
  obtain ⟨is2, ry, py⟩ := sq_get I1 qy
  have la := hSq_lt px
  have lb := hSq_lt py
  refine callM px py ?_
  have gt := fun i o e f => pushes_get (zNew s1.heap.objs.size t1 t2 a b) s1.heap i o e f
  refine wpAny_pyIter_zip (gt 4 _ rfl rfl) ?_
  have I2 : Inv X pins σ H1 { s1 with heap := pushes s1.heap (zNew s1.heap.objs.size t1 t2 a b) } := I1.kept (t' := s1.toks) fun c o e => pushes_keep _ _ c o e
  refine ⟨s1.heap.objs.size + 4, five s1.heap.objs.size, _, _, H1, rfl, I2, turnM la lb, ⟨gt 4 _ rfl rfl, gt 2 _ rfl rfl, ⟨_, _, gt 3 _ rfl rfl⟩, hIt_young (gt 0 _ rfl (by cases t1 <;> rfl)), hIt_young (gt 1 _ rfl (by cases t2 <;> rfl))⟩, fun c hc => ?_, q⟩
  have hle : s1.heap.objs.size ≤ c := by
    simp only [five, List.mem_cons, List.not_mem_nil, or_false] at hc
    rcases hc with q | q | q | q | q <;> subst q <;> show @LE.le Nat _ _ _ <;> omega
  exact I1.fpOk hle (I1.hok.fresh hle)
/-- walked -/
theorem walk_zipM {K : PySem.W.Frag} {t1 t2 : Bool} {a b : Addr} {xs ys : List V} {n : Nat} (hn : n = min xs.length ys.length) :
    Walk (ItM K t1 t2 a b) n (fun H => SqM K t1 H a xs ∧ SqM K t2 H b ys) (YPair (fun i => xs[i]?) (fun i => ys[i]?)) := by
  subst hn
  refine ⟨fun i _ hi q => ⟨xs, ys, q.1, q.2, hi⟩, fun _ q => ⟨xs, ys, q.1, q.2, rfl⟩, fun i H v H' _ q y => ?_⟩
  obtain ⟨T, x, z, h1, h2, h3, h4, h5⟩ := y
  exact ⟨T, x, z, h1, h2, h3, h4 xs q.1, h5 ys q.2⟩
end Zm

set_option Elab.async false
set_option linter.all false
set_option maxRecDepth 100000
set_option maxHeartbeats 1000000
/-! own rules: max(xs, key=lambda x: e) and min, xs a list or a tuple (Zm.SqM), e any expression over the def's shared names and x -/
namespace Lm
open PySem PySem.Spec PyProof.Rows L2 LamX
/-- one parameter, no other name of its own -/
structure LamP (sc scope : Scope) (x : Str) : Prop where
  kind : scope.kind = .function
  co : scope.isCoroutine = false
  gen : scope.isGenerator = false
  par : scope.names.lookup x = some .local
  one : ∀ y ∈ scope.names, y.2 = .local → y.1 = x
  nocell : ∀ y ∈ scope.names, y.2 ≠ .cell
  free : ∀ y ∈ scope.names, y.2 = .free → sc.names.lookup y.1 = some .cell
def lamPB (sc scope : Scope) (x : Str) : Bool :=
  decide (scope.kind = .function) && (!scope.isCoroutine && (!scope.isGenerator && (decide (scope.names.lookup x = some .local) && scope.names.all fun y =>
    (!decide (y.2 = .local) || decide (y.1 = x)) && (!decide (y.2 = .cell) && (!decide (y.2 = .free) || decide (sc.names.lookup y.1 = some .cell))))))
theorem lamP_by {sc scope : Scope} {x : Str} (h : lamPB sc scope x = true) : LamP sc scope x := by
  unfold lamPB at h
  simp only [Bool.and_eq_true, Bool.or_eq_true, Bool.not_eq_true', decide_eq_true_eq, decide_eq_false_iff_not, List.all_eq_true] at h
  obtain ⟨h1, h2, h3, h4, h5⟩ := h
  exact ⟨h1, h2, h3, h4, fun y hy e => (h5 y hy).1.resolve_left fun z => z e, fun y hy => (h5 y hy).2.1, fun y hy e => (h5 y hy).2.2.resolve_left fun z => z e⟩
section
variable {X : Cx} {pins : List (Addr × Obj)} {σ : L2.St} {H : Hp} {s : Shared}
theorem LamP.has {scope : Scope} {x : Str} (L : LamP X.env.scope scope x) (ok : X.Ok) : ∀ y ∈ scope.names, y.2 = .free → ∃ c, X.env.cells.lookup y.1 = some c := fun y hy e => ok.has _ (.inl (L.free y hy e))
/-- what the lambda shares is what the def has -/
theorem clo_sub {scope : Scope} {x : Str} (L : LamP X.env.scope scope x) (ok : X.Ok) {y : Str} {c : Addr} (e : (cloFrom X.env.cells scope.names []).lookup y = some c) : X.env.cells.lookup y = some c := by
  rcases cloFrom_mem (PySem.mem_of_lookup e) with h | ⟨h, hc⟩
  · exact absurd h List.not_mem_nil
  · obtain ⟨d, hd⟩ := L.has ok _ h rfl
    have hd : X.env.cells.lookup y = some d := hd
    have hc : c = (X.env.cells.lookup y).getD 0 := hc
    rw [hd] at hc
    rw [hd, show c = d from hc]
theorem clo_there {scope : Scope} {y : Str} (h : scope.names.lookup y = some .free) : ∃ c, (cloFrom X.env.cells scope.names []).lookup y = some c :=
  mem_lookup (cloFrom_has (cells := X.env.cells) (acc := []) (PySem.mem_of_lookup h))
/-- the lambda's own context, just entered -/
theorem lam_in {A : Around} {E : XK} {scope : Scope} {x : Str} {f c' : Addr} {i : Nat} {v : V} {u : Value} {h1 : Heap} {tk : Nat} (I : Inv X pins σ H s) (L : LamP X.env.scope scope x)
    (e0 : Env0 X.prog X.w X.K X.mg X.base A X.stack s H) (hd : A.handled = none) (hns : h1.Ns s.heap.objs.size fun y => [(x, u)].reverse.lookup y) (kp : ∀ b o, s.heap.get? b = some o → h1.get? b = some o)
    (hN : X.N[i]? = some x) (nd : X.N.Nodup) (r : RelV v u) : Inv (lamCx X A X.stack s H E scope f c') [] (σ.set i (some v)) H { s with heap := h1, toks := tk } := by
  have cellK : ∀ {c : Addr} {z : Option Value}, s.heap.IsCell c z → h1.IsCell c z := fun ⟨o, ho, hd⟩ => ⟨o, kp _ _ ho, hd⟩
  have none_ex : ∀ b : Addr, b ∉ (lamCx X A X.stack s H E scope f c').ex := fun b => List.not_mem_nil
  constructor
  · constructor
    · exact e0.mod
    · exact L.kind
    · rfl
    · rfl
    · exact Nat.le_refl _
    · exact fun y z c a b => I.ok.inj y z c (clo_sub L I.ok a) (clo_sub L I.ok b)
    · intro y hy
      have hy : scope.names.lookup y = some .cell ∨ scope.names.lookup y = some .free := hy
      rcases hy with h | h
      · exact absurd rfl (L.nocell _ (PySem.mem_of_lookup h))
      · exact clo_there h
    · intro y c z
      exact absurd (show false = true from z) Bool.false_ne_true
    · exact fun _ => hd
    · exact Around.frames_deeper e0.frames
    · exact .inr ⟨rfl, rfl⟩
    · exact fun b z => absurd z (none_ex b)
    · exact e0.bs
    · exact e0.bsz
    · exact fun b _ _ => none_ex b
    · exact fun b z => absurd z (none_ex b)
    · exact e0.funs
    · exact e0.frf
  · rfl
  · exact e0.bare
  · exact Un.kept kp
  · refine ⟨_, hns, fun j y w hj hw hv => ?_⟩
    have hj : X.N[j]? = some y := hj
    have hv : Vis scope y := hv
    have other : scope.names.lookup y = some .free → ∃ w', RelV w w' ∧ Look (lamEnv X scope s.heap.objs.size f c') h1 (fun y => [(x, u)].reverse.lookup y) y w' := fun k => by
      have hyx : j ≠ i := fun z => by
        rw [z, hN] at hj
        cases hj
        rw [L.par] at k
        cases k
      rw [List.getElem?_set_ne (fun z => hyx z.symm)] at hw
      obtain ⟨m, _, hl⟩ := I.loc
      have kc := L.free _ (PySem.mem_of_lookup k) rfl
      obtain ⟨w', rw', lk⟩ := hl j y w hj hw (.inr (.inl kc))
      refine ⟨w', rw', .inr ⟨.inr k, ?_⟩⟩
      obtain ⟨d, hd'⟩ := clo_there (X := X) k
      have hd2 := clo_sub L I.ok hd'
      rcases lk with ⟨k', _⟩ | ⟨_, d3, e3, hc⟩
      · rw [show X.env.kindOf y = some .cell from kc] at k'
        cases k'
      · rw [hd2] at e3
        cases e3
        exact ⟨d, hd', cellK hc⟩
    rcases hv with k | k | k
    · have hyx : y = x := L.one _ (PySem.mem_of_lookup k) rfl
      subst hyx
      have hji : j = i := by
        obtain ⟨hj1, hj2⟩ := List.getElem?_eq_some_iff.mp hj
        obtain ⟨hi1, hi2⟩ := List.getElem?_eq_some_iff.mp hN
        rcases Nat.lt_trichotomy j i with z | z | z
        · exact absurd (hj2.trans hi2.symm) (List.pairwise_iff_getElem.mp nd j i hj1 hi1 z)
        · exact z
        · exact absurd (hi2.trans hj2.symm) (List.pairwise_iff_getElem.mp nd i j hi1 hj1 z)
      subst hji
      have hl : j < σ.length := by
        rw [I.len]
        exact (List.getElem?_eq_some_iff.mp hN).1
      rw [List.getElem?_set_self hl] at hw
      cases hw
      refine ⟨u, r, .inl ⟨k, ?_⟩⟩
      show [(y, u)].lookup y = some u
      rw [List.lookup_cons, beq_self_eq_true]
    · exact absurd rfl (L.nocell _ (PySem.mem_of_lookup k))
    · exact other k
  · intro y c e
    obtain ⟨z, hz⟩ := I.cell y c (clo_sub L I.ok e)
    exact ⟨z, cellK hz⟩
  · exact e0.hok.fresh (Nat.le_refl _)
  · exact fun y c e => I.freeC y c (clo_sub L I.ok e)
  · exact fun q hq => absurd (show q ∈ ([] : List (Addr × Obj)) ++ [] from hq) List.not_mem_nil
  · exact e0.hok.kept kp
  · rw [List.length_set]
    exact I.len
/-- the lambda called with one thing, within a builtin -/
theorem lam_call {k i : Nat} {x : Str} {f c' : Addr} {params : Arguments} {body : Expr} {scope : Scope} {pm ctv u : Value} {v : V} {tb : TE} {Q : VK} {E : Value → Shared → Prop} (I : Inv X pins σ H s) (L : LamP X.env.scope scope x)
    (hf : s.heap.get? f = some (PySem.W.kla_obj "<lambda>" (X.env.qual ++ "<lambda>") params body scope (cloFrom X.env.cells scope.names []) pm c' ctv)) (hco : H c' = some (CodeO c' (X.env.qual ++ "<lambda>")))
    (hbind : ∀ v : Value, bindArgs (PySem.W.kla_fn "<lambda>" (X.env.qual ++ "<lambda>") params body scope (cloFrom X.env.cells scope.names []) pm (.ref c') ctv) ⟨[v], []⟩ = pure [(x, v)])
    (hr : Room (k + 2) X.A) (hd : X.A.handled = none) (hbody : ∀ (A : Around) (outer : List Env) (s : Shared) (H : Hp), Room k (A.deeper (lamEnv X scope s.heap.objs.size f c')) → PE (lamCx X A outer s H E0 scope f c').nox body tb)
    (hN : X.N[i]? = some x) (nd : X.N.Nodup) (r : RelV v u) (ht : tb (σ.set i (some v)) H Q) :
    wpAny (model X.prog X.w) X.A.in1 (call (.ref f) [u]) (fun u' s' => ∃ (v' : V) (H' : Hp), Inv X pins σ H' s' ∧ Un (frs X.stack) [] H H' s.heap s'.heap ∧ RelV v' u' ∧ Q v' H') E s := by
  obtain ⟨⟨oc, us, tq, o1, o2, o3⟩, _, _⟩ := I.hok c' _ hco
  have hr1 : Room (k + 1) X.A.in1 := hr.in1
  refine wpAny_call (PySem.W.kla_callFunE hr1.depth hf rfl L.co L.gen rfl ⟨c', oc, us, tq, rfl, o1, o2, o3⟩ ?_)
  rw [hbind]
  refine wpAny_pure (wpAny_newFunctionEnv L.nocell (fun z hz => by rw [List.mem_singleton.mp hz]; exact L.par) (fun h1 hns hsb => ⟨I.nolimit.fresh _ hsb, ?_⟩) L.kind)
  have kp : ∀ b o, s.heap.get? b = some o → h1.get? b = some o := fun b o e => hsb.extBut b o (Nat.ne_of_lt (Heap.lt_size e)) (Heap.get?_push_of_some _ e)
  have e0 : Env0 X.prog X.w X.K X.mg X.base X.A.in1 X.stack s H := I.env0.in1
  have J := lam_in (E := E0) (f := f) (c' := c') (tk := s.toks + ([(x, u)] : List (Str × Value)).length) I L e0 hd hns kp hN nd r
  refine PySem.W.kla_codeExpr (wpAny_mono ((hbody _ _ s H (hr1.deeper _)).run [] _ _ H Q (J.wish _) ht) (fun v' s' hq => ?_) fun e s' hq => hq.elim)
  obtain ⟨w', H', J', rv, q⟩ := hq
  have J2 := J'.unwish
  exact ⟨w', H', I.call' J2.os J2.base J2.hok J2.bare (fun b z => absurd z List.not_mem_nil), J2.base, rv, q⟩
end
/-- the first of the greatest -/
def FirstMost (kf : Nat → Int) (n j : Nat) : Prop := Cl.FirstLeast (fun i => -kf i) n j
theorem most_is (kf : Nat → Int) (n : Nat) : FirstMost kf (n + 1) (argBest (fun i j => decide (kf i > kf j)) n) := by
  have e : (fun i j => decide (kf i > kf j)) = fun i j => decide (-kf i < -kf j) := by
    funext i j
    exact decide_eq_decide.mpr ⟨fun z => by omega, fun z => by omega⟩
  rw [e]
  exact Cl.best_is _ n
open Zm (SqM hSq hIt nIt oIt newM sq_get)
theorem sqM_ext {K : PySem.W.Frag} {t : Bool} {H H' : Hp} {a : Addr} {xs : List V} (e : ExtN H H') (h : SqM K t H a xs) : SqM K t H' a xs := by
  cases t
  · exact e.sqL h
  · exact e.sqT h
section
variable {prog : Program} {w : World} {A : Around}
/-- the library's walk, told of the values' readings -/
theorem walkM (hh : A.handled = none) (t : Bool) (it a : Addr) (hne : a ≠ it) (xs : List V) :
    WalksS prog w A it [it, a] [it] (fun a b => b = a) xs.length (fun i v => ∃ y, xs[i]? = some y ∧ RelV y v) (fun i s => hIt t s.heap it a i ∧ ∃ its : List Value, Vals xs its ∧ hSq t s.heap a its.toArray) := by
  have base : ∀ its : List Value, WalksS prog w A it [it, a] [it] (fun a b => b = a) its.toArray.size (fun i v => its.toArray[i]? = some v) (fun i s => hIt t s.heap it a i ∧ hSq t s.heap a its.toArray) := fun its => by
    cases t
    · exact (Walks.list (A := A) hh it a hne its.toArray).toS
    · exact (Walks.tuple (A := A) hh it a hne its.toArray).toS
  have size : ∀ {its : List Value}, Vals xs its → its.toArray.size = xs.length := fun r => by
    rw [List.size_toArray]
    exact r.length.symm
  constructor
  · exact (base []).sub
  · exact (base []).grefl
  · exact (base []).gtrans
  · rintro i s h' tk ⟨st, its, r, p⟩ le k
    obtain ⟨a1, a2⟩ := (base its).frame i s h' tk ⟨st, p⟩ le k
    exact ⟨a1, its, r, a2⟩
  · rintro i s Q E hi ⟨st, its, r, p⟩ hQ
    refine (base its).item i s Q E (by rw [size r]; exact hi) ⟨st, p⟩ fun v s' hv st' m => hQ v s' ?_ ⟨st'.1, its, r, st'.2⟩ m
    obtain ⟨v', e1, rr⟩ := r.get (List.getElem?_eq_getElem hi)
    have hv : its[i]? = some v := by simpa using hv
    rw [hv] at e1
    cases e1
    exact ⟨_, List.getElem?_eq_getElem hi, rr⟩
  · rintro s Q E ⟨st, its, r, p⟩ hQ
    exact (base its).done s Q E ⟨by rw [size r]; exact st, p⟩ hQ
  · rintro i s Q E ⟨st, its, r, p⟩ hQ
    exact (base its).self i s Q E ⟨st, p⟩ hQ
end
/-- what the key is asked of, and what comes of it -/
def tBestLam (K : PySem.W.Frag) (best : (Nat → Int) → Nat → Nat → Prop) (t : Bool) (T : List (Addr × Str)) (i : Nat) (te tb : TE) : TE := fun σ H Q => te σ H fun v H1 => ∃ (a : Addr) (xs : List V) (kf : Nat → Int), v = .ref a ∧ SqM K t H1 a xs ∧ 0 < xs.length ∧ Tabs T H1 ∧
  ∀ (H2 : Hp), ExtN H1 H2 → Tabs T H2 →
    (∀ (j : Nat) (y : V) (H' : Hp), xs[j]? = some y → ExtN H2 H' → Tabs T H' → tb (σ.set i (some y)) H' fun k H'' => k = .int (kf j) ∧ ExtN H' H'' ∧ Tabs T H'') ∧
    ∀ (j : Nat) (y : V) (H' : Hp), best kf xs.length j → xs[j]? = some y → ExtN H2 H' → Tabs T H' → Q y H'
section
variable {X : Cx}
/-- the loop's state between two keys, and one key -/
structure KeySt (X : Cx) (pins : List (Addr × Obj)) (σ : L2.St) (t : Bool) (T : List (Addr × Str)) (H2 : Hp) (a f c' it S : Addr) (xs : List V) (lo : Obj) (s' : Shared) (H' : Hp) : Prop where
  inv : Inv X pins σ H' s'
  ext : ExtN H2 H'
  tab : Tabs T H'
  sq : SqM X.K t H' a xs
  lam : s'.heap.get? f = some lo
  nf : H' f = none
  fS : FpOk X pins H' S
  fI : FpOk X pins H' it
variable {pins : List (Addr × Obj)} {σ : L2.St} {t : Bool} {T : List (Addr × Str)} {H2 : Hp} {a f c' it S : Addr} {xs : List V} {lo : Obj}
theorem KeySt.moved {s4 s5 : Shared} {H' : Hp} (k : KeySt X pins σ t T H2 a f c' it S xs lo s4 H') (hS : f ≠ S) (hI : f ≠ it) (m : Moved [S, it] (fun a b => b = a) s4 s5) : KeySt X pins σ t T H2 a f c' it S xs lo s5 H' := by
  have e5 : s5 = { s4 with heap := s5.heap, toks := s5.toks } := by
    obtain ⟨hp, g, d, tk, os⟩ := s5
    have h1 : g = s4.gens := m.gens
    have h2 : d = s4.drawn := m.drawn
    have h3 : os = s4.os := m.os
    subst h1 h2 h3
    rfl
  refine ⟨?_, k.ext, k.tab, k.sq, m.heap _ _ (fun hm => ?_) k.lam, k.nf, k.fS, k.fI⟩
  · rw [e5]
    exact k.inv.turnedL (ch := [S, it]) (fun c o hc ho => m.heap c o hc ho) (fun b hb => by
      rcases List.mem_cons.mp hb with z | hb
      · rw [z]; exact k.fS
      · rw [List.mem_singleton.mp hb]; exact k.fI)
  · rcases List.mem_cons.mp hm with z | hm
    · exact hS z
    · exact hI (List.mem_singleton.mp hm)
theorem FpOk.through {b : Addr} {ob : Obj} {s4 s5 : Shared} {H' H'' : Hp} (I : Inv X pins σ H' s4) (un : Un (frs X.stack) [] H' H'' s4.heap s5.heap) (hb : s4.heap.get? b = some ob) (fp : FpOk X pins H' b) : FpOk X pins H'' b ∧ s5.heap.get? b = some ob := by
  refine ⟨⟨un.free b ob hb fp.1 List.not_mem_nil, fp.2⟩, un.keep b ob hb fp.1 (fun z => ?_) List.not_mem_nil⟩
  rcases List.mem_cons.mp (I.stkSub _ z) with w | w
  · exact fp.2.1 w
  · exact fp.2.2.1 w
/-- both builtins, behind the making of the lambda -/
theorem best_run {k i : Nat} {x : Str} {params : Arguments} {body : Expr} {scope : Scope} {pm ctv : Value} {kf : Nat → Int} {tb : TE} {s2 : Shared} {Q : VK} (w : Bool) (I2 : Inv X pins σ H2 s2) (hr : Room (k + 2) X.A) (hh : X.A.handled = none)
    (L : LamP X.env.scope scope x) (hN : X.N[i]? = some x) (nd : X.N.Nodup) (hsq : SqM X.K t H2 a xs) (hne : 0 < xs.length) (T2 : Tabs T H2)
    (hf : s2.heap.get? f = some (PySem.W.kla_obj "<lambda>" (X.env.qual ++ "<lambda>") params body scope (cloFrom X.env.cells scope.names []) pm c' ctv)) (hfn : H2 f = none) (hff : f ∉ frs X.stack) (hco : H2 c' = some (CodeO c' (X.env.qual ++ "<lambda>")))
    (hbind : ∀ (q : Str) (cl : List (Str × Addr)) (pm cv ctv v : Value), bindArgs (PySem.W.kla_fn "<lambda>" q params body scope cl pm cv ctv) ⟨[v], []⟩ = pure [(x, v)])
    (hbody : ∀ (A : Around) (outer : List Env) (s : Shared) (H : Hp) (f c' : Addr), Room k (A.deeper (lamEnv X scope s.heap.objs.size f c')) → PE (lamCx X A outer s H E0 scope f c').nox body tb)
    (qk : ∀ (j : Nat) (y : V) (H' : Hp), xs[j]? = some y → ExtN H2 H' → Tabs T H' → tb (σ.set i (some y)) H' fun k H'' => k = .int (kf j) ∧ ExtN H' H'' ∧ Tabs T H'')
    (qf : ∀ (j : Nat) (y : V) (H' : Hp), (if w = true then FirstMost kf xs.length j else Cl.FirstLeast kf xs.length j) → xs[j]? = some y → ExtN H2 H' → Tabs T H' → Q y H') :
    wpAny (model X.prog X.w) X.A (call (.builtin (if w = true then "max" else "min")) [.ref a] [(Str.ofString "key", .ref f)]) (EP X pins σ Q) X.xe s2 := by
  obtain ⟨its, rv0, p0⟩ := sq_get I2 hsq
  have hnI := I2.hok.fresh (Nat.le_refl s2.heap.objs.size)
  have flt : f < s2.heap.objs.size := Heap.lt_size hf
  have alt := Zm.hSq_lt p0
  -- what is the same for both
  have core : ∀ (bt : Nat → Nat → Bool) (op : CmpOp), (∀ i j ki kj (s : Shared) (Q : Value → Shared → Prop) (E : Value → Shared → Prop), (∃ t, ki = .int (kf i) t) → (∃ t, kj = .int (kf j) t) → Q (.bool (bt i j)) s → wpAny (model X.prog X.w) X.A.in1 (richCompare op ki kj) Q E s) →
      (∀ j y H', j = argBest bt (xs.length - 1) → xs[j]? = some y → ExtN H2 H' → Tabs T H' → Q y H') →
      wpAny (model X.prog X.w) X.A.in1 (pyIter (.ref a)) (fun it s₂ => ∃ I fp wr G n P St J V bt, it = .ref I ∧ WalksS X.prog X.w X.A.in1 I fp wr G n P St ∧ St 0 s₂ ∧ (∀ b ∈ fp, b < s₂.heap.objs.size) ∧ 0 < n ∧
        KeyRun X.prog X.w X.A.in1 (.ref f) op s₂.heap.objs.size wr G n P St J V bt ∧ J s₂ ∧ ∀ v s', P (argBest bt (n - 1)) v → J s' → EP X pins σ Q v s') X.xe s2 := fun bt op hcmp hend => by
    refine newM p0 ?_
    have szp : (s2.heap.push (oIt t a)).objs.size = s2.heap.objs.size + 1 := Heap.size_push ..
    have ltp : s2.heap.objs.size < (s2.heap.push (oIt t a)).objs.size := by rw [szp]; exact Nat.lt_succ_self _
    have fpI : FpOk X pins H2 s2.heap.objs.size := I2.fpOk (Nat.le_refl _) hnI
    have fpS : FpOk X pins H2 (s2.heap.push (oIt t a)).objs.size := I2.fpOk (Nat.le_of_lt ltp) (I2.hok.fresh (Nat.le_of_lt ltp))
    have hfI : f ≠ s2.heap.objs.size := fun z => by rw [z] at flt; exact Nat.lt_irrefl _ flt
    have hfS : f ≠ (s2.heap.push (oIt t a)).objs.size := fun z => by
      rw [z] at flt
      exact Nat.lt_irrefl _ (Nat.lt_trans flt ltp)
    refine ⟨s2.heap.objs.size, _, _, _, xs.length, _, _, fun s' => ∃ H', KeySt X pins σ t T H2 a f c' s2.heap.objs.size (s2.heap.push (oIt t a)).objs.size xs (PySem.W.kla_obj "<lambda>" (X.env.qual ++ "<lambda>") params body scope (cloFrom X.env.cells scope.names []) pm c' ctv) s' H',
      fun i k _ => ∃ t, k = .int (kf i) t, bt, rfl, walkM (prog := X.prog) (w := X.w) (A := X.A.in1) hh t s2.heap.objs.size a (Nat.ne_of_lt alt) xs, ⟨Zm.hIt_young (Heap.get?_push_size _ (by cases t <;> rfl)), its, rv0, Zm.hSq_up p0 fun o e => Heap.get?_push_of_some _ e⟩, fun b hb => ?_, hne, ⟨?_, ?_, ?_, ?_⟩, ?_, ?_⟩
    · show b < (s2.heap.push (oIt t a)).objs.size
      rcases List.mem_cons.mp hb with z | hb
      · rw [z]; exact ltp
      · rw [List.mem_singleton.mp hb]; exact Nat.lt_trans alt ltp
    · rintro s4 s5 ⟨H', k'⟩ m
      exact ⟨H', k'.moved hfS hfI m⟩
    · exact fun i k s1 s' v _ => v
    · rintro j v s4 o Q' E' hj ⟨y, hy, ry⟩ ⟨H', k'⟩ ⟨stI, its', rv', stL⟩ hS cont
      have hco' : H' c' = some (CodeO c' (X.env.qual ++ "<lambda>")) := k'.ext _ _ hco codeO_ne
      refine wpAny_mono (lam_call (Q := fun k H'' => k = .int (kf j) ∧ ExtN H' H'' ∧ Tabs T H'') k'.inv L k'.lam hco' (fun v => hbind _ _ _ _ _ v) hr hh (fun A outer s H hr2 => hbody A outer s H f c' hr2) hN nd ry (qk j y H' hy k'.ext k'.tab)) (fun u' s5 hq => ?_) fun _ _ z => z
      obtain ⟨v', H'', I'', un, rv2, ek, sm, tb2⟩ := hq
      subst ek
      obtain ⟨tk, rfl⟩ := rv2
      obtain ⟨oi, hoi, _⟩ := Zm.hIt_there stI
      obtain ⟨g1, g2⟩ := FpOk.through k'.inv un hS k'.fS
      obtain ⟨g3, g4⟩ := FpOk.through k'.inv un hoi k'.fI
      have sq2 := sqM_ext sm k'.sq
      obtain ⟨its2, rw2, p2⟩ := sq_get I'' sq2
      exact cont _ s5 ⟨H'', I'', k'.ext.trans sm, tb2, sq2, un.keep _ _ k'.lam k'.nf hff List.not_mem_nil, un.free _ _ k'.lam k'.nf List.not_mem_nil, g1, g3⟩ ⟨Zm.hIt_at stI fun o ho => by rw [hoi] at ho; cases ho; exact g4, its2, rw2, p2⟩ g2 ⟨tk, rfl⟩ fun _ _ z => z
    · intro i j ki kj s4 Q' E' _ vi vj q'
      exact hcmp i j ki kj s4 Q' E' vi vj q'
    · exact ⟨H2, I2.kept (t' := s2.toks) fun b o e => Heap.get?_push_of_some _ e, ExtN.refl _, T2, hsq, Heap.get?_push_of_some _ hf, hfn, fpS, fpI⟩
    · rintro v s5 ⟨y, hy, ry⟩ ⟨H', k'⟩
      exact ⟨y, H', k'.inv, ry, hend _ y H' rfl hy k'.ext k'.tab⟩
  obtain ⟨n, en⟩ : ∃ n, xs.length = n + 1 := ⟨xs.length - 1, by omega⟩
  cases w
  · refine call_min_walkK (core (fun i j => decide (kf i < kf j)) .Lt (fun i j ki kj s Q' E' vi vj q' => CmpOf.ints_lt (prog := X.prog) (w := X.w) (A := X.A.in1) (P := fun i v => ∃ t, v = .int (kf i) t) kf (fun i v h => h) i j ki kj s Q' E' vi vj q') fun j y H' hj hy e tt => qf j y H' ?_ hy e tt)
    rw [if_neg Bool.false_ne_true, hj, en]
    exact Cl.best_is kf n
  · refine call_max_walkK (core (fun i j => decide (kf i > kf j)) .Gt (fun i j ki kj s Q' E' vi vj q' => CmpOf.ints_gt (prog := X.prog) (w := X.w) (A := X.A.in1) (P := fun i v => ∃ t, v = .int (kf i) t) kf (fun i v h => h) i j ki kj s Q' E' vi vj q') fun j y H' hj hy e tt => qf j y H' ?_ hy e tt)
    rw [if_pos rfl, hj, en]
    exact most_is kf n
variable {c P : Addr} {k i : Nat} {p lpos kpos pos : Pos} {e body : Expr} {te tb : TE} {x : Str} {params : Arguments} {scope : Scope}
/-- max(e, key=lambda x: body); t: e is a tuple -/
theorem pe_maxlam (t : Bool) (hg : Gl X "max") (hm : X.mg "max" = none) (he : PE X e te) (hr : Room (k + 2) X.A) (hh : X.A.handled = none) (TB : TabB X.base X.mg c P) (hcode : X.env.code = .ref c) (hmT : (P, X.env.qual ++ "<lambda>") ∈ T)
    (hu : ∀ q ∈ T, q.1 = P → q.2 = X.env.qual ++ "<lambda>") (L : LamP X.env.scope scope x) (hN : X.N[i]? = some x) (nd : X.N.Nodup) (hdef : defaultsOf params X.env = ([], []))
    (hbind : ∀ (q : Str) (cl : List (Str × Addr)) (pm cv ctv v : Value), bindArgs (PySem.W.kla_fn "<lambda>" q params body scope cl pm cv ctv) ⟨[v], []⟩ = pure [(x, v)])
    (hbody : ∀ (A : Around) (outer : List Env) (s : Shared) (H : Hp) (f c' : Addr), Room k (A.deeper (lamEnv X scope s.heap.objs.size f c')) → PE (lamCx X A outer s H E0 scope f c').nox body tb)
    (hs : starEach [e] X.env = (false, eval e X.env) :: starEach [] X.env := by rfl) :
    PE X (.Call (.Name "max" p) [e] [⟨some "key", .Lambda params body scope lpos, kpos⟩] pos) (tBestLam X.K FirstMost t T i te tb) := by
  refine ⟨fun pins s σ H Q I h => ?_⟩
  refine wpAny_Call_Name_kw (ld_blt I hg hm (u := .builtin "max") (by decide +kernel) ?_)
  refine PyProof.Rows.callWith_kw ?_ (by rw [hs]; rfl) (by rw [hs]; rfl) (by rfl) (by rfl)
  rw [hs]
  show wpAny _ _ (spliced ((false, eval e X.env) :: backTo pos (starEach [] X.env))) _ _ s
  refine Calls.spliced_cons (thn (he.run pins s σ H _ I h) fun u s1 ⟨v, H1, I1, r1, a, xs, kf, ev, hl, hne, hT, q⟩ => Calls.spliced_nil ?_)
  subst ev
  obtain rfl : u = Value.ref a := r1
  show wpAny _ _ (evalAll ((do let v ← eval (.Lambda params body scope lpos) X.env; standAt pos; pure v) :: [])) _ _ s1
  refine wpAny_evalAll_cons (wpAny_bind (lam_make2 I1 TB hcode hmT hu hT hdef (L.has I1.ok) fun f c' pm ctv H2 s2 I2 eN T2 hf hfn hff hco => wpAny_bind (wpAny_standAt (wpAny_pure (wpAny_evalAll_nil ?_)))))
  obtain ⟨qk, qf⟩ := q H2 eN T2
  exact best_run (w := true) (kf := kf) I2 hr hh L hN nd (sqM_ext eN hl) hne T2 hf hfn hff hco hbind hbody qk fun j y H' h => qf j y H' h
/-- min(e, key=lambda x: body) -/
theorem pe_minlam (t : Bool) (hg : Gl X "min") (hm : X.mg "min" = none) (he : PE X e te) (hr : Room (k + 2) X.A) (hh : X.A.handled = none) (TB : TabB X.base X.mg c P) (hcode : X.env.code = .ref c) (hmT : (P, X.env.qual ++ "<lambda>") ∈ T)
    (hu : ∀ q ∈ T, q.1 = P → q.2 = X.env.qual ++ "<lambda>") (L : LamP X.env.scope scope x) (hN : X.N[i]? = some x) (nd : X.N.Nodup) (hdef : defaultsOf params X.env = ([], []))
    (hbind : ∀ (q : Str) (cl : List (Str × Addr)) (pm cv ctv v : Value), bindArgs (PySem.W.kla_fn "<lambda>" q params body scope cl pm cv ctv) ⟨[v], []⟩ = pure [(x, v)])
    (hbody : ∀ (A : Around) (outer : List Env) (s : Shared) (H : Hp) (f c' : Addr), Room k (A.deeper (lamEnv X scope s.heap.objs.size f c')) → PE (lamCx X A outer s H E0 scope f c').nox body tb)
    (hs : starEach [e] X.env = (false, eval e X.env) :: starEach [] X.env := by rfl) :
    PE X (.Call (.Name "min" p) [e] [⟨some "key", .Lambda params body scope lpos, kpos⟩] pos) (tBestLam X.K Cl.FirstLeast t T i te tb) := by
  refine ⟨fun pins s σ H Q I h => ?_⟩
  refine wpAny_Call_Name_kw (ld_blt I hg hm (u := .builtin "min") (by decide +kernel) ?_)
  refine PyProof.Rows.callWith_kw ?_ (by rw [hs]; rfl) (by rw [hs]; rfl) (by rfl) (by rfl)
  rw [hs]
  show wpAny _ _ (spliced ((false, eval e X.env) :: backTo pos (starEach [] X.env))) _ _ s
  refine Calls.spliced_cons (thn (he.run pins s σ H _ I h) fun u s1 ⟨v, H1, I1, r1, a, xs, kf, ev, hl, hne, hT, q⟩ => Calls.spliced_nil ?_)
  subst ev
  obtain rfl : u = Value.ref a := r1
  show wpAny _ _ (evalAll ((do let v ← eval (.Lambda params body scope lpos) X.env; standAt pos; pure v) :: [])) _ _ s1
  refine wpAny_evalAll_cons (wpAny_bind (lam_make2 I1 TB hcode hmT hu hT hdef (L.has I1.ok) fun f c' pm ctv H2 s2 I2 eN T2 hf hfn hff hco => wpAny_bind (wpAny_standAt (wpAny_pure (wpAny_evalAll_nil ?_)))))
  obtain ⟨qk, qf⟩ := q H2 eN T2
  exact best_run (w := false) (kf := kf) I2 hr hh L hN nd (sqM_ext eN hl) hne T2 hf hfn hff hco hbind hbody qk fun j y H' h => qf j y H' h
end
end Lm

set_option Elab.async false
set_option linter.all false
set_option maxRecDepth 100000
set_option maxHeartbeats 1000000
/-! own rules: == and != of two dicts whose values are ints, equal or not -/
namespace Dq
open PySem PySem.Spec PyProof.Rows L2
abbrev KVs : Type := List (Key × V)
def eqDB (ks ls : List (Key × V)) : Bool := decide (ks.length = ls.length) && ks.all fun p => decide (valV ls p.1 = some p.2)
def IntVs (ks : List (Key × V)) : Prop := ∀ p ∈ ks, ∃ i : Int, p.2 = .int i
theorem valV_mem {kvs : List (Key × V)} {k : Key} {v : V} (h : valV kvs k = some v) : (k, v) ∈ kvs := by
  unfold valV at h
  obtain ⟨p, hp, rfl⟩ := Option.map_eq_some_iff.mp h
  have e := List.find?_some hp
  rw [show k = p.1 from (of_decide_eq_true e).symm]
  exact List.mem_of_find?_eq_some hp
section
variable {A : Around} {s : Shared} {ls : List (Key × V)} {vb : List (Key × Value)}
theorem hits_ints (rb : KV ls vb) (hl : IntVs ls) : ∀ {ks : List (Key × V)} {va : List (Key × Value)}, KV ks va → IntVs ks → PySem.W.KeqHits A s vb va (ks.all fun p => decide (valV ls p.1 = some p.2)) := by
  intro ks va ra
  unfold KV at ra
  induction ra with
  | nil => exact fun _ => .nil
  | @cons p q ps qs h t ih =>
    intro hk
    obtain ⟨h1, h2⟩ := h
    have h1 : p.1 = q.1 := h1
    obtain ⟨i, ei⟩ := hk p List.mem_cons_self
    have tail := ih fun z hz => hk z (List.mem_cons_of_mem _ hz)
    have rr := rb.val p.1
    rw [List.all_cons]
    cases e : valV ls p.1 with
    | none =>
      rw [e] at rr
      have hn : valueAt vb q.1 = none := by
        rw [← h1]
        cases z : valueAt vb p.1 with
        | none => rfl
        | some y => rw [z] at rr; exact rr.elim
      rw [decide_eq_false (fun z => nomatch z), Bool.false_and]
      exact .miss (v := q.2) hn
    | some u =>
      obtain ⟨j, ej⟩ := hl _ (valV_mem e)
      have ej : u = .int j := ej
      subst ej
      rw [e] at rr
      obtain ⟨y, hy, ry⟩ := rr.some_of
      rw [h1] at hy
      obtain ⟨t1, rfl⟩ := ry
      rw [ei] at h2 ⊢
      obtain ⟨t2, e2⟩ := h2
      obtain ⟨k, v⟩ := q
      have e2 : v = .int i t2 := e2
      subst e2
      rw [show decide (some (V.int j) = some (V.int i)) = (i == j) from by
        rw [Bool.eq_iff_iff, decide_eq_true_eq, beq_iff_eq]
        exact ⟨fun z => by injection z with z; injection z with z; exact z.symm, fun z => by rw [z]⟩]
      exact .hit hy (SeqAt.EqAt.int_int _ _ _ _) tail
end
def rEqDI : R2 := fun x y H Q => ∃ (a b : Addr) (ks ls : List (Key × V)), x = .ref a ∧ y = .ref b ∧ H a = some (.dK ks) ∧ H b = some (.dK ls) ∧ IntVs ks ∧ IntVs ls ∧ Q (.bl (eqDB ks ls)) H
def rNeDI : R2 := fun x y H Q => ∃ (a b : Addr) (ks ls : List (Key × V)), x = .ref a ∧ y = .ref b ∧ H a = some (.dK ks) ∧ H b = some (.dK ls) ∧ IntVs ks ∧ IntVs ls ∧ Q (.bl (!eqDB ks ls)) H
section
variable {X : Cx}
theorem len_dec {α β : Type} (xs : List α) (ys : List β) : (xs.length == ys.length) = decide (xs.length = ys.length) := by
  rw [Bool.eq_iff_iff, beq_iff_eq, decide_eq_true_eq]
theorem op_eqDI (hu : X.A.units < cLine) : OpR X (compareOp .Eq) rEqDI := by
  rintro pins s σ H x y v u Q I rx ry ⟨a, b, ks, ls, rfl, rfl, ea, eb, ia, ib, q⟩
  cases rx
  cases ry
  obtain ⟨_, ya, va, ra, da⟩ := dk_of I.hok ea
  obtain ⟨_, yb, vb, rb, db⟩ := dk_of I.hok eb
  refine PySem.W.keq_eq (knd := mixKind X.prog X.w) ya yb da db hu (fun _ => hits_ints rb ib ra ia) (fin_bl I q ?_)
  unfold eqDB
  rw [len_dec, ra.length, rb.length]
theorem op_neDI (hu : X.A.units < cLine) : OpR X (compareOp .NotEq) rNeDI := by
  rintro pins s σ H x y v u Q I rx ry ⟨a, b, ks, ls, rfl, rfl, ea, eb, ia, ib, q⟩
  cases rx
  cases ry
  obtain ⟨_, ya, va, ra, da⟩ := dk_of I.hok ea
  obtain ⟨_, yb, vb, rb, db⟩ := dk_of I.hok eb
  refine PySem.W.keq_ne (knd := mixKind X.prog X.w) ya yb da db hu (fun _ => hits_ints rb ib ra ia) (fin_bl I q ?_)
  unfold eqDB
  rw [len_dec, ra.length, rb.length]
/-- the same, as a part of something -/
def DDI : Eqv := fun x y H => ∃ (a b : Addr) (ks ls : List (Key × V)), x = .ref a ∧ y = .ref b ∧ H a = some (.dK ks) ∧ H b = some (.dK ls) ∧ IntVs ks ∧ IntVs ls ∧ eqDB ks ls = true
theorem mon_dI : Mon DDI := fun x y H H' e ⟨a, b, ks, ls, h1, h2, h3, h4, r⟩ => ⟨a, b, ks, ls, h1, h2, e _ _ h3, e _ _ h4, r⟩
theorem rcG_dI : RcG X 1 DDI := by
  rintro A pins s σ H x y u v sb I rx ry ⟨a, b, ks, ls, rfl, rfl, ea, eb, ia, ib, q⟩
  cases rx
  cases ry
  obtain ⟨_, ya, va, ra, da⟩ := dk_of I.hok ea
  obtain ⟨_, yb, vb, rb, db⟩ := dk_of I.hok eb
  have key := PySem.W.keq_eq (prog := X.prog) (w := X.w) (A := A) (E := X.xe) (Q := fun r s' => r = .bool true ∧ ∃ H', Inv X pins σ H' s' ∧ Ext H H') (knd := mixKind X.prog X.w) ya yb da db sb.room.units0 (fun _ => hits_ints rb ib ra ia)
  refine key ⟨?_, H, I, Ext.rfl'⟩
  unfold eqDB at q
  rw [len_dec, ← ra.length, ← rb.length, q]
theorem eqG_dI : EqG X 1 DDI := rcG_dI.eqG fun _ _ _ d => let ⟨a, b, _, _, hx, hy, _⟩ := d; ⟨a, b, hx, hy⟩
theorem eqDB_same {ks : List (Key × V)} (nd : ∀ p ∈ ks, valV ks p.1 = some p.2) : eqDB ks ks = true := by
  unfold eqDB
  rw [decide_eq_true rfl, Bool.true_and]
  exact List.all_eq_true.mpr fun p hp => decide_eq_true (nd p hp)
end
end Dq

set_option Elab.async false
set_option linter.all false
set_option maxRecDepth 100000
set_option maxHeartbeats 1000000
/-! list(o.values()), a dict with int values -/
namespace L2
open PySem PySem.Spec PyProof.Rows
section
variable {X : Cx}
def tListVals (td : TE) : TE := fun σ H Q => td σ H fun x H1 => ∃ (a : Addr) (kvs : List (Key × V)), x = V.ref a ∧ H1 a = some (.dK kvs) ∧ ∀ p, H1 p = none → Q (.ref p) (upd H1 p (.lst (kvs.map (·.2))))
variable {o : Expr} {p pos apos mpos : Pos} {td : TE}
theorem pe_listVals (hc : X.calm = true) (hg : Gl X "list") (hm : X.mg "list" = none) (hd : PE X o td) (hbase : attributeBase o "values" X.env (eval o X.env) = eval o X.env := by rfl) (hline : (apos.endLine == mpos.line) = true := by rfl)
    (hse : starEach [Expr.Call (.Attribute o "values" apos) [] [] mpos] X.env = [(false, eval (Expr.Call (.Attribute o "values" apos) [] [] mpos) X.env)] := by rfl) :
    PE X (.Call (.Name "list" p) [.Call (.Attribute o "values" apos) [] [] mpos] [] pos) (tListVals td) := by
  refine ⟨fun pins s σ H Q I h => ?_⟩
  refine wpAny_Call_Name_kw (ld_blt I hg hm (u := .type "list") (by first | rfl | decide +kernel) ?_ (by first | decide +kernel | decide) (by first | decide +kernel | decide))
  rw [hse]
  refine PySem.callWith_type1 (wpAny_Call_method0_late hbase hline (thn (hd.run pins s σ H _ I h) fun v s1 ⟨x, H1, I1, r1, a, kvs, ex, ha, q⟩ => ?_))
  subst ex
  obtain rfl : v = Value.ref a := r1
  obtain ⟨z, hsys, vs, rel, dof⟩ := dk_of I1.hok ha
  obtain ⟨ep, dat⟩ := dof.dictAt
  have dat' := dat
  obtain ⟨ob, es, ho, ex, hdat, hko, hpr, hnd⟩ := dat'
  refine ⟨"dict", "dict.values", F.plainAttrs_dict, F.slot_dict_values, F.type_dict_values, ⟨ob, ho, ex.1⟩, fun b e => ?_, Calls.callWith_builtin rfl (PySem.evalArgs_none ?_)⟩
  · cases e
    exact ⟨ob, ho, ex.2.1⟩
  refine call_meetsIn F.slot_dict_values ⟨ob, ho, ex.1⟩ F.entry_dict_values (F.args_dict_values_1 _) (meets_dict_values (mixKind X.prog X.w) a hsys) ⟨⟨vs, dof⟩, ?_⟩
  have k1 : ∀ b u, s1.heap.get? b = some u → (s1.heap.push { cls := .type "dict_values", data := .fields #[.ref a] }).get? b = some u := fun b u e => Heap.get?_push_of_some _ e
  have I2 : Inv X pins σ H1 { s1 with heap := s1.heap.push { cls := .type "dict_values", data := .fields #[.ref a] } } := I1.kept (t' := s1.toks) k1
  have hl : kvs.length = vs.length := rel.length
  refine PySem.W.kdl_call (PySem.W.kdl_values (knd := mixKind X.prog X.w) (kvs := vs) (ep := ep)) (I1.ok.hd hc) ⟨⟨_, Heap.get?_push_size _ rfl, rfl, rfl⟩, dat.keep k1⟩ (by rw [← hl]; exact z) fun h' tk acc c' hk hD hacc => ?_
  have I3 := I2.laid (a := (s1.heap.push { cls := .type "dict_values", data := .fields #[.ref a] }).objs.size) (o := .lst (kvs.map (·.2))) (t' := tk) hk (Nat.le_refl _) ?_
  · exact ⟨.ref _, _, I3, rfl, q _ (I2.hok.fresh (Nat.le_refl _))⟩
  · refine ⟨by rw [List.length_map]; exact z, acc.toList, c', ?_, by rw [Array.toArray_toList]; exact hD⟩
    refine vals_of_at (by
      have e : acc.toList.length = acc.size := Array.length_toList
      rw [List.length_map, e, hacc.1, hl]) fun j x w h1 h2 => ?_
    obtain ⟨k, hi⟩ := hacc.2 j w (by rw [← Array.getElem?_toList]; exact h2)
    obtain ⟨y, h3, h4⟩ := KV.at' rel hi
    rw [List.getElem?_map, h3] at h1
    cases h1
    exact h4
end
end L2

set_option Elab.async false
set_option linter.all false
set_option maxRecDepth 100000
set_option maxHeartbeats 4000000
/-! xs[i] += e, xs a list, i from 0 on: the read -/
namespace Ga
open PySem PySem.Spec PyProof.Rows PySem.W L2
theorem get_list {X : Cx} : PGet X (fun x y H Q => ∃ p xs i v, x = .ref p ∧ y = .int i ∧ 0 ≤ i ∧ SqL X.K H p xs ∧ xs[i.toNat]? = some v ∧ Q v H) := by
  intro pins s σ H o i ov iv Q I ro ri h
  obtain ⟨p, xs, i, z, rfl, rfl, h0, hq, h2, q⟩ := h
  cases ro
  obtain ⟨t, rfl⟩ := ri
  obtain ⟨its, r, pl, hz⟩ := I.list hq
  obtain ⟨w, ew, rw'⟩ := r.get h2
  have hl := r.length
  have hn := line63
  have hlt : i.toNat < xs.length := by
    rcases Nat.lt_or_ge i.toNat xs.length with g | g
    · exact g
    · rw [List.getElem?_eq_none g] at h2; cases h2
  exact wpAny_getItem_list pl.isList h0 (by omega) (by simpa using ew) ⟨z, H, I, rw', q⟩
end Ga
namespace Ga
open PySem PySem.Spec PyProof.Rows PySem.W L2
/-- x *= e, ints, one of them small -/
theorem ip_mul {X : Cx} : PIp X .Mult (fun x y H Q => ∃ i j, x = .int i ∧ y = .int j ∧ CMul i j ∧ Q (.int (i * j)) H) := by
  intro pins s σ H x y v u Q I r1 r2 h
  obtain ⟨i, j, e1, e2, hc, q⟩ := h
  subst e1; subst e2
  obtain ⟨t, rfl⟩ := r1
  obtain ⟨t', rfl⟩ := r2
  exact imul_int ⟨.int _, H, I.tok _, ⟨_, rfl⟩, q⟩ hc.ok
end Ga

set_option Elab.async false
set_option linter.all false
set_option maxRecDepth 100000
set_option maxHeartbeats 2000000
/-! sorted(d), d a dict with whole numbers as keys -/
namespace Sd
open PySem PySem.Spec PyProof.Rows L2
section
variable {prog : Program} {w : World} {A : Around} {E : Value → Shared → Prop} {s : Shared} {T : String} {r d : Addr} {n : Nat} {P : Nat → Value → Prop} {OK : Heap → Prop}
/-- what a source of values gives, gathered -/
theorem gather_src {Q : List Value → Shared → Prop} (K : PySem.W.KdlSrc prog w T r d n P OK) (hh : A.handled = none) (hok : OK s.heap) (hn : n ≤ sizeLine)
    (h : ∀ h' tk (acc : Array Value) c, (∀ b o, s.heap.get? b = some o → h'.get? b = some o) → h'.get? s.heap.objs.size = some { cls := .type "list", dict := none, data := .seq acc c, slots := #[] } → PySem.ItemsOf P acc n → Q acc.toList { s with heap := h', toks := tk }) :
    wpAny (model prog w) A (collect (.ref r)) Q E s := by
  unfold collect
  refine wpAny_bind (wpAny_runValue (codeAny_builtin entry_proto_collect' ?_))
  show wpAny _ _ (do again (.builtin "list.__iadd__" ⟨[← newList [], .ref r], []⟩)) _ _ s
  refine wpAny_bind (wpAny_newList (wpAny_pure ⟨Code.quiet_builtin _ (by decide +kernel), codeAny_builtin entry_list_iadd' ?_⟩))
  show wpAny _ _ (Builtin.List.listExtendWith (.ref s.heap.objs.size) (.ref r) (.ref s.heap.objs.size)) _ _ { s with heap := s.heap.push (seqObj "list" #[] 0) }
  have hlt := K.there _ hok
  have hS : (s.heap.push (seqObj "list" #[] 0)).get? s.heap.objs.size = some { cls := .type "list", data := .seq #[] 0 } := Heap.get?_push_size _ rfl
  have hok2 : OK (s.heap.push (seqObj "list" #[] 0)) := K.keep _ _ hok fun b _ o e => Heap.get?_push_of_some _ e
  rw [Around.under_plainId (id := "list.__iadd__") (by decide +kernel) _]
  refine PySem.W.kdl_extend (R := fun r s' => match r with
    | .ok (.ret v) => wpAny (model prog w) A (match v with
        | .ref a => do
          let o ← load a
          match o.data with
          | .seq xs _ => pure xs.toList
          | _ => unsupported "internal:collect"
        | _ => unsupported "internal:collect") Q E s'
    | .ok _ => False
    | .error e => E e s') (s := { s with heap := s.heap.push (seqObj "list" #[] 0) }) K hh hok2 s.heap.objs.size (Nat.ne_of_gt hlt.1) (Nat.ne_of_gt hlt.2) (.ref s.heap.objs.size) 0 hS (fun h' tk acc c hk hS' hacc => ?_) hn
  refine wpAny_bind (wpAny_load hS' ?_)
  exact wpAny_pure (h h' tk acc c (fun b o e => hk b o (Nat.ne_of_lt (Heap.lt_size e)) (Heap.get?_push_of_some _ e)) hS' hacc)
end
def rSortedD : List V → Hp → VK → Prop := fun vs H Q => ∃ (a : Addr) (kvs : List (Key × V)) (ns : List Int), vs = [V.ref a] ∧ H a = some (.dK kvs) ∧ kvs.map (·.1) = ns.map Sum.inl ∧
  ∀ (ns' : List Int) (p : Addr), ns'.Perm ns → ns'.Pairwise (· ≤ ·) → H p = none → Q (.ref p) (upd H p (.lst (ns'.map V.int)))
theorem cr_sortedD {X : Cx} (hc : X.calm = true) : CallR X (.builtin "sorted") rSortedD := by
  intro pins s σ H vs us Q I r h
  obtain ⟨a, kvs, ns, rfl, ha, hks, q⟩ := h
  rw [Vals.ref1 r]
  obtain ⟨z, lo, vs, rk, hd⟩ := (show ObjOk X.prog X.w H s.heap a (.dK kvs) from I.hok a _ ha)
  obtain ⟨ep, hat⟩ := hd.dictAt
  have hl : kvs.length = vs.length := Paired.length rk
  have hkl : ns.length = kvs.length := by
    have := congrArg List.length hks
    rw [List.length_map, List.length_map] at this
    exact this.symm
  refine Calls.call_function_entry kind_sorted plain_sorted entry_sorted (args_sorted1 _) ?_
  unfold Builtin.«sorted»
  refine wpAny_bind (m := checkCount "sorted" 1 1 _) (wpAny_pure ?_)
  refine wpAny_bind (gather_src (PySem.W.kdl_dict (knd := mixKind X.prog X.w) (kvs := vs) (ep := ep) lo) (by exact I.ok.hd hc) hat (by rw [← hl]; exact z) fun h' tk acc c hk hS hacc => ?_)
  have el : acc.toList.length = acc.size := by simp
  have rv : Vals (ns.map V.int) acc.toList := by
    refine vals_of_at (by rw [List.length_map, el, hacc.1, ← hl, hkl]) fun j x w h1 h2 => ?_
    obtain ⟨k, y, hky, hi⟩ := hacc.2 j w (by rw [← Array.getElem?_toList]; exact h2)
    have e1 : (kvs.map (·.1))[j]? = some k := by
      rw [KV.keys rk, List.getElem?_map, hky] <;> rfl
    rw [hks, List.getElem?_map] at e1
    rw [List.getElem?_map] at h1
    cases e : ns[j]? with
    | none => rw [e] at h1; cases h1
    | some n =>
      rw [e] at h1 e1
      have e1 : Sum.inl n = k := Option.some.inj e1
      have h1 : V.int n = x := Option.some.inj h1
      rw [← h1]
      have := keyIs_rel hi
      rw [← e1] at this
      exact this
  have hi := rv.ints
  have hzi : acc.toList.length ≤ sizeLine := by rw [el, hacc.1, ← hl]; exact z
  have hlt : s.heap.objs.size < h'.objs.size := Heap.lt_size hS
  refine wpAny_bind (wpAny_newList ?_ hzi)
  have hoL : (h'.push (seqObj "list" acc.toList.toArray 0)).get? h'.objs.size = some (seqObj "list" acc.toList.toArray 0) := Heap.get?_push_size _ rfl
  refine wpAny_bind (wpAny_holding (wpAny_call_entry slot_list_sort ⟨_, hoL, rfl⟩ entry_list_sort (SrtO.list_sort_ord SrtO.swo_int hoL hzi (fun h2 => SrtO.ints_sortable hi h2) fun out h1 h2 => ⟨_, rfl, ?_⟩) (args_list_sort _)))
  refine wpAny_pure ⟨_, rfl, ?_⟩
  obtain ⟨k1, k2, k3⟩ := SrtO.ints_out hi h1 h2
  have hlen : ((out.map SrtO.iv).map V.int).length ≤ sizeLine := by
    rw [List.length_map, k2.length_eq, hkl]
    exact z
  obtain ⟨e0, he0⟩ := sortedHeap_at (out := out.toArray) hoL
  refine ⟨.ref _, upd H h'.objs.size (.lst ((out.map SrtO.iv).map V.int)), I.laid (t' := tk) (fun b o e => ?_) (Nat.le_of_lt hlt) ⟨hlen, out, e0, vals_of_ints k1, he0⟩, rfl, q _ _ k2 k3 (I.hok.fresh (Nat.le_of_lt hlt))⟩
  have hb := Heap.lt_size (hk b o e)
  refine (sortedHeap_old (Nat.ne_of_lt hb) (by rw [size_push']; exact Nat.lt_succ_of_lt hb)).trans ?_
  exact Heap.get?_push_of_some _ (hk b o e)
end Sd

set_option Elab.async false
set_option linter.all false
set_option maxRecDepth 100000
set_option maxHeartbeats 2000000
/-! own rule: a dict comprehension of two clauses. One lemma speaks of a clause's turn (turnK), whichever clause it is; into_blk: the block is entered, and left -/
namespace L2.D2
open PySem PySem.Spec PyProof.Rows L2
/-- a clause's turn; k: what comes behind its tests -/
def turnK (at_ : Pos) (tg : Expr) (cs : List Expr) (it : Value) (env : Env) (k : Bool → Sem Fin) : Sem Fin := do
  standAt at_
  match ← pyNext it with
  | none => pure (.done .next)
  | some v =>
    letOwnedTupleGo tg it v
    assign tg env v
    let go ← forIn cs true fun c r => if r = true then do let ok ← isTrue c env (eval c env); pure (ForInStep.yield ok) else pure (ForInStep.yield r)
    k go
section
variable {kx vx ta ia tb ib : Expr} {ca cb : List Expr} {sc : Scope} {pos : Pos}
theorem turn_a (it : Value) (D : Addr) (env : Env) : compTurn (.DictComp kx vx [⟨ta, ia, ca, 0⟩, ⟨tb, ib, cb, 0⟩] sc pos) 0 it (.ref D) env =
    turnK ia.pos ta ca it env fun go => if go = true then (do
        let src ← eval ib env
        standAt ib.pos
        let src ← foldedSetIterable ib env src
        let _ ← runOwn (.compStart (.DictComp kx vx [⟨ta, ia, ca, 0⟩, ⟨tb, ib, cb, 0⟩] sc pos) 1 (← holding [src] (pyIter src)) (.ref D) env) env
        again (.compLoop (.DictComp kx vx [⟨ta, ia, ca, 0⟩, ⟨tb, ib, cb, 0⟩] sc pos) 0 it (.ref D) env))
      else again (.compLoop (.DictComp kx vx [⟨ta, ia, ca, 0⟩, ⟨tb, ib, cb, 0⟩] sc pos) 0 it (.ref D) env) := by rfl
theorem turn_b (it : Value) (D : Addr) (env : Env) : compTurn (.DictComp kx vx [⟨ta, ia, ca, 0⟩, ⟨tb, ib, cb, 0⟩] sc pos) 1 it (.ref D) env =
    turnK ib.pos tb cb it env fun go => if go = true then (do
        (do
          let key ← eval kx env
          let val ← holding [key] (eval vx env)
          standAt { kx.pos with endLine := vx.pos.endLine, endCol := vx.pos.endCol }
          holding [key, val] (dictSet D key val))
        again (.compLoop (.DictComp kx vx [⟨ta, ia, ca, 0⟩, ⟨tb, ib, cb, 0⟩] sc pos) 1 it (.ref D) env))
      else again (.compLoop (.DictComp kx vx [⟨ta, ia, ca, 0⟩, ⟨tb, ib, cb, 0⟩] sc pos) 1 it (.ref D) env) := by rfl
end
section
variable {X : Cx}
/-- a walk stands at turn i, and its own objects are untracked -/
structure Walking (X : Cx) (pins : List (Addr × Obj)) (σ : St) (fp : List Addr) (tn : Nat → Heap → Prop) (i : Nat) (H : Hp) (s : Shared) : Prop where
  inv : Inv X pins σ H s
  st : tn i s.heap
  nil : ∀ b ∈ fp, H b = none
variable {pins : List (Addr × Obj)} {σ : St} {H : Hp} {s : Shared} {J : It} {fp : List Addr} {it : Addr} {tn : Nat → Heap → Prop} {tg : Expr} {cs : List Expr} {g : TG} {tt : TT} {i : Nat}
theorem Walking.weak {σ' : St} (w : Walking X pins σ fp tn i H s) (hl : σ'.length = σ.length) (hw : ∀ (j : Nat) v, σ'[j]? = some (some v) → σ[j]? = some (some v)) : Walking X pins σ' fp tn i H s := ⟨w.inv.weak hl hw, w.st, w.nil⟩
/-- behind a turn's own work, its objects pinned at h -/
theorem back (T : Turn X.prog X.w X.K tg J fp it tn) {h : Heap} (st : tn i h) (I : Inv X (pins ++ pinsAt fp h) σ H s) : Walking X pins σ fp tn i H s := by
  have pin : ∀ b ∈ fp, ∀ o, h.get? b = some o → s.heap.get? b = some o ∧ H b = none := fun b hb o e => by
    have q := I.pin (b, o) (List.mem_append_right _ (List.mem_append_right _ (mem_pinsAt hb e)))
    exact ⟨q.1, q.2.1⟩
  refine ⟨I.unpinned, T.keep _ _ _ st fun b hb o e => (pin b hb o e).1, fun b hb => ?_⟩
  obtain ⟨o, e, _⟩ := T.obj _ _ st b hb
  exact (pin b hb o e).2
/-- a turn that finds no more -/
theorem turn_stop (hc : X.calm = true) (T : Turn X.prog X.w X.K tg J fp it tn) (hf : ∀ H', (∀ b ∈ fp, H' b = none) → ∀ b ∈ fp, FpOk X pins H' b) (wk : Walking X pins σ fp tn i H s) (hs : J.stop i H) {p : Pos} {k : Bool → Sem Fin} {Q : Fin → Shared → Prop} {E : Value → Shared → Prop}
    (hq : ∀ s', Inv X pins σ H s' → Q (.done .next) s') : wpAny (model X.prog X.w) X.A (turnK p tg cs (.ref it) X.env k) Q E s := by
  unfold turnK
  refine wpAny_bind (wpAny_standAt (wpAny_bind (thnF (T.done X rfl rfl rfl hc i pins s σ H (fun _ _ => False) wk.inv (hf H wk.nil) wk.st hs) fun r s' z => ?_)))
  obtain ⟨e, I⟩ := z
  rw [e]
  exact wpAny_pure (hq s' I)
/-- a turn that goes on: what is wanted of k -/
theorem turn_go (hc : X.calm = true) (hx : X.xe = fun _ _ => False) (T : Turn X.prog X.w X.K tg J fp it tn) (pg : PG X tg g) (pt : PTs X cs tt) (hf : ∀ H', (∀ b ∈ fp, H' b = none) → ∀ b ∈ fp, FpOk X pins H' b) (wk : Walking X pins σ fp tn i H s) (go : J.go i H)
    {Pm : St → Prop} {B : St → Bool → Hp → Prop} (step : ∀ x H', J.yld i H x H' → g x σ H' fun σ2 H2 => Pm σ2 ∧ tt σ2 H2 (B σ2)) {p : Pos} {k : Bool → Sem Fin} {Q : Fin → Shared → Prop} {E : Value → Shared → Prop}
    (hk : ∀ (pl : List (Addr × Obj)), (∀ σ' H' s', Inv X (pins ++ pl) σ' H' s' → Walking X pins σ' fp tn (i + 1) H' s') → ∀ b σ2 H3 s3, Inv X (pins ++ pl) σ2 H3 s3 → Pm σ2 → B σ2 b H3 → wpAny (model X.prog X.w) X.A (k b) Q E s3) :
    wpAny (model X.prog X.w) X.A (turnK p tg cs (.ref it) X.env k) Q E s := by
  unfold turnK
  refine wpAny_bind (wpAny_standAt (wpAny_bind (thnF (T.item X rfl rfl rfl hc i pins s σ H (fun _ _ => False) wk.inv (hf H wk.nil) wk.st go) fun r s1 z => ?_)))
  obtain ⟨u, e, z⟩ := z
  rw [e]
  refine wpAny_bind (thnF z fun _ s2 z => ?_)
  obtain ⟨x, H2, I2, rx, y, st2, n2⟩ := z
  have a := pg.run _ s2 σ H2 x u _ (I2.pinned (hf H2 n2) (T.obj _ _ st2)) rx (step x H2 y)
  rw [hx] at a
  refine wpAny_bind (thnF a fun _ s3 z => ?_)
  obtain ⟨σ3, H3, I3, h3, q3⟩ := z
  have b := pt.run _ s3 σ3 H3 _ I3 q3
  rw [hx] at b
  refine wpAny_bind (thnF b fun more s4 z => ?_)
  obtain ⟨H4, I4, q4⟩ := z
  exact hk (pinsAt fp s2.heap) (fun σ' H' s' I' => back T st2 I') more σ3 H4 s4 I4 h3 q4
end
section
variable {X : Cx} {kx vx ta ia tb ib : Expr} {ca cb : List Expr} {sc : Scope} {pos : Pos} {pins : List (Addr × Obj)} {σ : St} {H : Hp} {s : Shared} {J : It} {fp : List Addr} {it D : Addr} {tn : Nat → Heap → Prop} {ga gb : TG} {qa qb : TT} {wb : TI} {tk tv : TE} {va vb : List Nat} {R : Result → Shared → Prop}
/-- what a turn of the second clause is to answer -/
def StepB (gb : TG) (qb : TT) (tk tv : TE) (vb : List Nat) (D : Addr) (J : It) (σ : St) (Nx : Hp → Prop) (W : Nat → Nat → Hp → Prop) : Prop := ∀ j k H, W j k H →
  (J.stop j H ∧ Nx H) ∨ (J.go j H ∧ ∃ Ny : Hp → Prop, (∀ H', Ny H' → ∃ k', k' < k ∧ W (j + 1) k' H') ∧ ∀ x H', J.yld j H x H' → gb x (wipe σ vb) H' fun σ2 H2 => wipe σ2 vb = wipe σ vb ∧ qb σ2 H2 fun b H3 =>
    if b = true then tk σ2 H3 fun y H4 => tv σ2 H4 fun z H5 => ∃ kvs key, y = kV key ∧ H5 D = some (.dK kvs) ∧ kvs.length < sizeLine ∧ Ny (upd H5 D (.dK (putK kvs key z))) else Ny H3)
/-- what a turn of the first clause is to answer -/
def StepA (ga : TG) (qa : TT) (wb : TI) (gb : TG) (qb : TT) (tk tv : TE) (va vb : List Nat) (D : Addr) (J : It) (σ : St) (Nx : Hp → Prop) (W : Nat → Nat → Hp → Prop) : Prop := ∀ i m H, W i m H →
  (J.stop i H ∧ Nx H) ∨ (J.go i H ∧ ∃ Ny : Hp → Prop, (∀ H', Ny H' → ∃ m', m' < m ∧ W (i + 1) m' H') ∧ ∀ x H', J.yld i H x H' → ga x (wipe σ va) H' fun σ2 H2 => wipe σ2 va = wipe σ va ∧ qa σ2 H2 fun b H3 =>
    if b = true then wb σ2 H3 fun Jb H4 => ∃ Wb : Nat → Nat → Hp → Prop, (∃ k, Wb 0 k H4) ∧ StepB gb qb tk tv vb D Jb σ2 Ny Wb else Ny H3)
theorem loop_b (hc : X.calm = true) (hx : X.xe = fun _ _ => False) (T : Turn X.prog X.w X.K tb J fp it tn) (pg : PG X tb gb) (pt : PTs X cb qb) (pk : PE X kx tk) (pv : PE X vx tv) (hf : ∀ H', (∀ b ∈ fp, H' b = none) → ∀ b ∈ fp, FpOk X pins H' b)
    {Nx : Hp → Prop} {W : Nat → Nat → Hp → Prop} (turn : StepB gb qb tk tv vb D J σ Nx W) {m : Nat} (wk : Walking X pins (wipe σ vb) fp tn 0 H s) (w : W 0 m H) (hR : ∀ H' s', Inv X pins (wipe σ vb) H' s' → Nx H' → R (.ok .next) s') :
    codeAny (model X.prog X.w) X.A (.compLoop (.DictComp kx vx [⟨ta, ia, ca, 0⟩, ⟨tb, ib, cb, 0⟩] sc pos) 1 (.ref it) (.ref D) X.env) R s := by
  refine codeAny_loop rfl (fun n s' => ∃ i H', Walking X pins (wipe σ vb) fp tn i H' s' ∧ W i n H') (fun n s' z => ?_) m ⟨0, H, wk, w⟩
  obtain ⟨i, H', wk', w'⟩ := z
  show wpAny _ X.A ((compTurn (.DictComp kx vx [⟨ta, ia, ca, 0⟩, ⟨tb, ib, cb, 0⟩] sc pos) 1 (.ref it) (.ref D) X.env).onRaise (fun x => do noteFrame x X.env; theTreesLotGoes x)) _ _ s'
  refine wpAny_noted ?_
  rw [turn_b]
  rcases turn i n H' w' with ⟨stop, nx⟩ | ⟨go, Ny, hNy, step⟩
  · exact turn_stop hc T hf wk' stop fun s2 I2 => hR H' s2 I2 nx
  · refine turn_go hc hx T pg pt hf wk' go step fun pl bk b σ2 H3 s3 I3 hP q => ?_
    have fin : ∀ H4 s4, Inv X (pins ++ pl) σ2 H4 s4 → Ny H4 → ∃ m', m' < n ∧ ∃ i H, Walking X pins (wipe σ vb) fp tn i H s4 ∧ W i m' H := fun H4 s4 I4 n1 => by
      obtain ⟨m', hm, w2⟩ := hNy H4 n1
      exact ⟨m', hm, i + 1, H4, (bk σ2 H4 s4 I4).weak (by rw [← hP, wipe_length]) (fun j v e => by rw [← hP] at e; exact (wipe_some e).1), w2⟩
    cases b with
    | false => exact wpAny_pure ⟨rfl, fin H3 s3 I3 q⟩
    | true =>
      have a := pk.run _ s3 σ2 H3 _ I3 q
      rw [hx] at a
      refine wpAny_bind (wpAny_bind (thnF a fun key s4 z => ?_))
      obtain ⟨yk, H4, I4, rk, q4⟩ := z
      have a := pv.run _ s4 σ2 H4 _ I4 q4
      rw [hx] at a
      refine wpAny_bind (wpAny_holding (thnF a fun val s5 z => ?_))
      obtain ⟨yv, H5, I5, rv, kvs, k, ek, hD5, hz, n1⟩ := z
      subst ek
      exact wpAny_bind (wpAny_standAt (wpAny_holding (d_dictSet (X := X) I5 hD5 hz rk rv fun s6 I6 => wpAny_pure ⟨rfl, fin _ s6 I6 n1⟩)))
/-- the second clause begins -/
theorem start_b {A : Around} {itv acc : Value} {env : Env} (h0 : codeAny (model X.prog X.w) A (.compLoop (.DictComp kx vx [⟨ta, ia, ca, 0⟩, ⟨tb, ib, cb, 0⟩] sc pos) 1 itv acc env) R s)
    (h1 : ∀ (Q : Value → Shared → Prop) (E : Value → Shared → Prop), Q itv s → wpAny (model X.prog X.w) A (pyIter itv) Q E s) :
    codeAny (model X.prog X.w) A (.compStart (.DictComp kx vx [⟨ta, ia, ca, 0⟩, ⟨tb, ib, cb, 0⟩] sc pos) 1 itv acc env) R s := by
  refine codeAny_of_tree ?_
  show wpAny _ _ ((compStart (.DictComp kx vx [⟨ta, ia, ca, 0⟩, ⟨tb, ib, cb, 0⟩] sc pos) 1 itv acc env).onRaise (fun x => do noteFrame x env; standAt theWindowsPlace)) _ _ s
  refine wpAny_notedAt ?_
  unfold compStart
  show wpAny _ _ (ask >>= _) _ _ s
  refine wpAny_bind (wpAny_askSetting (wpAny_ite ?_))
  split
  · exact wpAny_bind (wpAny_pure (wpAny_pure (And.intro rfl h0)))
  · exact wpAny_bind (wpAny_rule (wpAny_bind (wpAny_standAt (wpAny_bind (h1 _ _ (wpAny_pure (And.intro rfl h0)))))))
theorem loop_a (hc : X.calm = true) (hx : X.xe = fun _ _ => False) (T : Turn X.prog X.w X.K ta J fp it tn) (pg : PG X ta ga) (pt : PTs X ca qa) (pi : PI X tb ib wb) (pg2 : PG X tb gb) (pt2 : PTs X cb qb) (pk : PE X kx tk) (pv : PE X vx tv)
    (hf : ∀ H', (∀ b ∈ fp, H' b = none) → ∀ b ∈ fp, FpOk X pins H' b) (hs : ∀ x, foldedSetIterable ib X.env x = pure x) (hv : ∀ i ∈ vb, i ∈ va)
    {Nx : Hp → Prop} {W : Nat → Nat → Hp → Prop} (turn : StepA ga qa wb gb qb tk tv va vb D J σ Nx W) {m : Nat} (wk : Walking X pins (wipe σ va) fp tn 0 H s) (w : W 0 m H) (hR : ∀ H' s', Inv X pins (wipe σ va) H' s' → Nx H' → R (.ok .next) s') :
    codeAny (model X.prog X.w) X.A (.compLoop (.DictComp kx vx [⟨ta, ia, ca, 0⟩, ⟨tb, ib, cb, 0⟩] sc pos) 0 (.ref it) (.ref D) X.env) R s := by
  refine codeAny_loop rfl (fun n s' => ∃ i H', Walking X pins (wipe σ va) fp tn i H' s' ∧ W i n H') (fun n s' z => ?_) m ⟨0, H, wk, w⟩
  obtain ⟨i, H', wk', w'⟩ := z
  show wpAny _ X.A ((compTurn (.DictComp kx vx [⟨ta, ia, ca, 0⟩, ⟨tb, ib, cb, 0⟩] sc pos) 0 (.ref it) (.ref D) X.env).onRaise (fun x => do noteFrame x X.env; theTreesLotGoes x)) _ _ s'
  refine wpAny_noted ?_
  rw [turn_a]
  rcases turn i n H' w' with ⟨stop, nx⟩ | ⟨go, Ny, hNy, step⟩
  · exact turn_stop hc T hf wk' stop fun s2 I2 => hR H' s2 I2 nx
  · refine turn_go hc hx T pg pt hf wk' go step fun pl bk b σ2 H3 s3 I3 hP q => ?_
    have hlen : (wipe σ va).length = σ2.length := by rw [← hP, wipe_length]
    have fin : ∀ σ' H4 s4, Inv X (pins ++ pl) σ' H4 s4 → σ'.length = σ2.length → (∀ (j : Nat) v, (wipe σ va)[j]? = some (some v) → σ'[j]? = some (some v)) → Ny H4 → ∃ m', m' < n ∧ ∃ i H, Walking X pins (wipe σ va) fp tn i H s4 ∧ W i m' H := fun σ' H4 s4 I4 hl hw n1 => by
      obtain ⟨m', hm, w2⟩ := hNy H4 n1
      exact ⟨m', hm, i + 1, H4, (bk σ' H4 s4 I4).weak (hlen.trans hl.symm) hw, w2⟩
    cases b with
    | false => exact wpAny_pure ⟨rfl, fin σ2 H3 s3 I3 rfl (fun j v e => by rw [← hP] at e; exact (wipe_some e).1) q⟩
    | true =>
      have a := pi.run _ s3 σ2 H3 _ I3 q
      rw [hx] at a
      refine wpAny_bind (thnF a fun src s4 a => ?_)
      refine wpAny_bind (wpAny_standAt (wpAny_bind (wpAny_of_eq (hs src) (wpAny_bind (wpAny_holding (thnF a fun itv s5 z => ?_))))))
      obtain ⟨ib2, fq, tm, Jb, H5, e, I5, Tb, st5, f5, Wb, ⟨mb, wb0⟩, turnb⟩ := z
      subst e
      refine wpAny_bind (wpAny_runOwn ?_)
      rw [Around.mark_none]
      refine start_b (loop_b (σ := σ2) hc hx Tb pg2 pt2 pk pv (fun H6 hn b hb => ⟨hn b hb, (f5 b hb).2⟩) turnb ⟨I5.weak (wipe_length _ _) (fun j v e => (wipe_some e).1), st5, fun b hb => (f5 b hb).1⟩ wb0 fun H6 s6 I6 n6 => ?_) (fun Q E hq => Tb.self X.A 0 s5 Q E st5 hq)
      exact wpAny_pure ⟨rfl, fin _ H6 s6 I6 (wipe_length _ _) (fun j v e => by
        rw [← hP] at e
        obtain ⟨e1, e2⟩ := wipe_some e
        rw [wipe_out fun z => e2 (hv j z)]
        exact e1) n6⟩
/-- {k: v for a in A if .. for b in B if ..} -/
def tDc2 (wa : TI) (ga : TG) (qa : TT) (wb : TI) (gb : TG) (qb : TT) (tk tv : TE) (va vb : List Nat) : TE := fun σ H Q => wa σ H fun J H1 => ∀ D, H1 D = none → ∃ W : Nat → Nat → Hp → Prop, (∃ m, W 0 m (upd H1 D (.dK []))) ∧ StepA ga qa wb gb qb tk tv va vb D J σ (Q (.ref D)) W
/-- a comprehension's block is entered with a new dict, and left -/
theorem into_blk {scope : Scope} {own : List (Str × Nat)} {tg : Expr} (hN : X.N.Nodup) (ok : BlkOk X.N X.env.scope scope own) (I : Inv X pins σ H s) (T : Turn X.prog X.w X.K tg J fp it tn) (st : tn 0 s.heap) (hf : ∀ b ∈ fp, FpOk X pins H b) {Q : Value → Env → Shared → Prop} {E : Value → Shared → Prop}
    (h : ∀ (D C : Addr) (cl : List (Str × Addr)) (s3 s4 : Shared), H D = none → Walking (X.blk s3 (upd H D (.dK [])) scope (compEnvC scope cl C X.env) fp) [] (wipe σ (own.map (·.2))) fp tn 0 (upd H D (.dK [])) s4 →
      (∀ H', (∀ b ∈ fp, H' b = none) → ∀ b ∈ fp, FpOk (X.blk s3 (upd H D (.dK [])) scope (compEnvC scope cl C X.env) fp) [] H' b) →
      (∀ σ' H' s', Inv (X.blk s3 (upd H D (.dK [])) scope (compEnvC scope cl C X.env) fp) [] σ' H' s' → Inv X pins σ H' s' ∧ (∃ m, s'.heap.Ns C m) ∧ FpOk X pins H' C) → Q (.ref D) (compEnvC scope cl C X.env) s4) :
    wpAny (model X.prog X.w) X.A newDict (fun acc s3 => wpAny (model X.prog X.w) X.A (newFunctionEnv scope X.env.globals (cloFrom X.env.cells scope.names []) [] X.env.qual none .none (some X.env)) (fun cenv s4 => Q acc { cenv with scope := relabel scope X.env } s4) E s3) E s := by
  refine wpAny_newObj_type (newEnv_comp ?_)
  have hDn : H s.heap.objs.size = none := I.hok.fresh (Nat.le_refl _)
  have up : ∀ b u, s.heap.get? b = some u → (s.heap.push { cls := .type "dict", data := .dict #[] }).get? b = some u := fun b u e => Heap.get?_push_of_some _ e
  have I3 := I.laid (t' := s.toks) up (Nat.le_refl _) (dk_empty s.heap I.big)
  generalize hs3 : ({ s with heap := s.heap.push { cls := .type "dict", data := .dict #[] }, toks := s.toks } : Shared) = s3 at I3
  have hh : s3.heap = s.heap.push { cls := .type "dict", data := .dict #[] } := by rw [← hs3]
  have f3 : ∀ b ∈ fp, FpOk X pins (upd H s.heap.objs.size (.dK [])) b ∧ b < s3.heap.objs.size := fun b hb => by
    obtain ⟨u, e, _⟩ := T.obj _ _ st b hb
    have lt := Heap.lt_size e
    refine ⟨⟨?_, (hf b hb).2⟩, ?_⟩
    · rw [upd_ne (Nat.ne_of_lt lt)]
      exact (hf b hb).1
    · rw [hh, Heap.size_push]
      exact Nat.lt_succ_of_lt lt
  have I4 := block_start I3 ok hN f3
  have key := h s.heap.objs.size s3.heap.objs.size (cellsFrom (s3.heap.objs.size + 1) scope.names (cloFrom X.env.cells scope.names [])) s3 _ hDn
    ⟨I4, T.keep _ _ _ st fun b _ u e => pushCells_keeps _ _ _ _ (Heap.get?_push_of_some _ (by rw [hh]; exact up b u e)), fun b hb => (f3 b hb).1.1⟩
    (fun H' hn b hb => ⟨hn b hb, (I4.ok.exf b hb).1, I4.ok.exfs b hb, .inl hb, fun x c e => (I4.ok.exf b hb).2 x c e, fun p hp => nomatch hp⟩)
    (fun σ' H' s' I6 => ⟨I3.call' (ch := fp) I6.os I6.base I6.hok I6.bare fun b hb => ⟨(f3 b hb).1.2.2.2.1, (f3 b hb).1.2.1, (f3 b hb).1.2.2.2.2.1, (f3 b hb).1.2.2.2.2.2⟩, let ⟨m, hn, _⟩ := I6.loc; ⟨m, hn⟩, I3.fpOk (Nat.le_refl _) I6.free⟩)
  exact key
theorem pe_dc2 {scope : Scope} {own : List (Str × Nat)} {wa : TI} (hc : X.calm = true) (hN : X.N.Nodup) (hi : PI X ta ia wa) (ok : BlkOk X.N X.env.scope scope own) (hv : ∀ i ∈ vb, i ∈ own.map (·.2))
    (h1 : ∀ (s : Shared) (H : Hp) (C : Addr) (cl : List (Str × Addr)) (fp : List Addr), PG (X.blk s H scope (compEnvC scope cl C X.env) fp) ta ga) (h2 : ∀ (s : Shared) (H : Hp) (C : Addr) (cl : List (Str × Addr)) (fp : List Addr), PTs (X.blk s H scope (compEnvC scope cl C X.env) fp) ca qa)
    (h3 : ∀ (s : Shared) (H : Hp) (C : Addr) (cl : List (Str × Addr)) (fp : List Addr), PI (X.blk s H scope (compEnvC scope cl C X.env) fp) tb ib wb)
    (h4 : ∀ (s : Shared) (H : Hp) (C : Addr) (cl : List (Str × Addr)) (fp : List Addr), PG (X.blk s H scope (compEnvC scope cl C X.env) fp) tb gb) (h5 : ∀ (s : Shared) (H : Hp) (C : Addr) (cl : List (Str × Addr)) (fp : List Addr), PTs (X.blk s H scope (compEnvC scope cl C X.env) fp) cb qb)
    (h6 : ∀ (s : Shared) (H : Hp) (C : Addr) (cl : List (Str × Addr)) (fp : List Addr), PE (X.blk s H scope (compEnvC scope cl C X.env) fp) kx tk) (h7 : ∀ (s : Shared) (H : Hp) (C : Addr) (cl : List (Str × Addr)) (fp : List Addr), PE (X.blk s H scope (compEnvC scope cl C X.env) fp) vx tv)
    (hs : ∀ x, foldedSetIterable ia X.env x = pure x := by intro _; rfl) (hs1 : ∀ env x, foldedSetIterable ib env x = pure x := by intro _ _; rfl) :
    PE X (.DictComp kx vx [⟨ta, ia, ca, 0⟩, ⟨tb, ib, cb, 0⟩] scope pos) (tDc2 wa ga qa wb gb qb tk tv (own.map (·.2)) vb) := by
  refine ⟨fun ps s0 σ0 H0 Q I h => ?_⟩
  rw [arm_eval_DictComp]
  have hfr : ∀ y ∈ scope.names, y.2 = .free → ∃ c, X.env.cells.lookup y.1 = some c := fun y hy e => (ok.free y hy e).elim (fun k => I.ok.has _ (.inl k)) fun k => I.ok.has _ (.inr k)
  refine wpAny_comprehension_free rfl hs (closure_ok hfr) ok.kind (fun y hy e => by rw [ok.uniq y hy, e]) (thn (hi.run ps s0 σ0 H0 _ I h) fun xv s1 z => thn z fun iv s2 z2 => ?_)
  obtain ⟨a, fa, ta', Ja, H2, e, I2, T, st2, f2, q⟩ := z2
  subst e
  refine into_blk (Q := fun acc ce s4 => codeAny (model X.prog X.w) X.A (.compStart (.DictComp kx vx [⟨ta, ia, ca, 0⟩, ⟨tb, ib, cb, 0⟩] scope pos) 0 (.ref a) acc ce) (compPost (model X.prog X.w) X.A X.xe none (EP X ps σ0 Q) acc ce.locals) s4) hN ok I2 T st2 f2 fun D C cl s3 s4 hD wk stat leave => ?_
  obtain ⟨W, ⟨m0, w0⟩, turn⟩ := q D hD
  have loop : codeAny (model X.prog X.w) X.A (.compLoop (.DictComp kx vx [⟨ta, ia, ca, 0⟩, ⟨tb, ib, cb, 0⟩] scope pos) 0 (.ref a) (.ref D) (compEnvC scope cl C X.env)) (compPost (model X.prog X.w) X.A X.xe none (EP X ps σ0 Q) (.ref D) C) s4 :=
    loop_a (X := X.blk s3 (upd H2 D (.dK [])) scope (compEnvC scope cl C X.env) fa) hc rfl T (h1 _ _ _ _ _) (h2 _ _ _ _ _) (h3 _ _ _ _ _) (h4 _ _ _ _ _) (h5 _ _ _ _ _) (h6 _ _ _ _ _) (h7 _ _ _ _ _) stat (hs1 _) hv turn wk w0 fun H' s' I' qd => by
      obtain ⟨I7, ⟨m, hn⟩, f0, f1, f3, f4, f5, f6⟩ := leave _ H' s' I'
      exact ⟨m, hn, fun h' sb => ⟨.ref D, H', I7.turned (t' := s'.toks) (fun b u hb e => (sb.2 b hb).trans e) f0 f1 f4 f5 f6, rfl, qd⟩⟩
  exact codeAny_compStart_dict loop (T.self X.A 0 _ _ _ wk.st loop)
end
section
variable {J : It} {n : Nat} {G : Hp → Prop} {Y : Nat → Hp → V → Hp → Prop} {ga gb : TG} {qa qb : TT} {wb : TI} {tk tv : TE} {va vb : List Nat} {D : Addr} {σ : St}
/-- the first clause's walk, by its turns -/
theorem stepA_it (w : Walk J n G Y) {H0 : Hp} {Nd : Hp → Prop} (Pv : Nat → Hp → Prop) (h0 : Pv 0 H0) (hG : ∀ i H, i ≤ n → Pv i H → G H)
    (hs : ∀ i x H H', i < n → Pv i H → Y i H x H' → ga x (wipe σ va) H' fun σ2 H2 => wipe σ2 va = wipe σ va ∧ qa σ2 H2 fun b H3 =>
      if b = true then wb σ2 H3 fun Jb H4 => ∃ Wb : Nat → Nat → Hp → Prop, (∃ k, Wb 0 k H4) ∧ StepB gb qb tk tv vb D Jb σ2 (Pv (i + 1)) Wb else Pv (i + 1) H3) (hd : ∀ H, Pv n H → Nd H) :
    ∃ W : Nat → Nat → Hp → Prop, (∃ m, W 0 m H0) ∧ StepA ga qa wb gb qb tk tv va vb D J σ Nd W := by
  refine ⟨fun i m H => m = n - i ∧ i ≤ n ∧ Pv i H, ⟨n, rfl, Nat.zero_le _, h0⟩, fun i m H z => ?_⟩
  obtain ⟨rfl, hi, p⟩ := z
  rcases Nat.lt_or_ge i n with hlt | hge
  · exact .inr ⟨w.goes i H hlt (hG i H hi p), Pv (i + 1), fun H' p' => ⟨n - (i + 1), by omega, rfl, hlt, p'⟩, fun x H' y => hs i x H H' hlt p (w.yields i H x H' hlt (hG i H hi p) y)⟩
  · obtain rfl : i = n := Nat.le_antisymm hi hge
    exact .inl ⟨w.stops H (hG i H hi p), hd H p⟩
/-- the second clause's -/
theorem stepB_it (w : Walk J n G Y) {H0 : Hp} {Nx : Hp → Prop} (Pv : Nat → Hp → Prop) (h0 : Pv 0 H0) (hG : ∀ i H, i ≤ n → Pv i H → G H)
    (hs : ∀ i x H H', i < n → Pv i H → Y i H x H' → gb x (wipe σ vb) H' fun σ2 H2 => wipe σ2 vb = wipe σ vb ∧ qb σ2 H2 fun b H3 =>
      if b = true then tk σ2 H3 fun y H4 => tv σ2 H4 fun z H5 => ∃ kvs key, y = kV key ∧ H5 D = some (.dK kvs) ∧ kvs.length < sizeLine ∧ Pv (i + 1) (upd H5 D (.dK (putK kvs key z))) else Pv (i + 1) H3) (hd : ∀ H, Pv n H → Nx H) :
    ∃ W : Nat → Nat → Hp → Prop, (∃ m, W 0 m H0) ∧ StepB gb qb tk tv vb D J σ Nx W := by
  refine ⟨fun i m H => m = n - i ∧ i ≤ n ∧ Pv i H, ⟨n, rfl, Nat.zero_le _, h0⟩, fun i m H z => ?_⟩
  obtain ⟨rfl, hi, p⟩ := z
  rcases Nat.lt_or_ge i n with hlt | hge
  · exact .inr ⟨w.goes i H hlt (hG i H hi p), Pv (i + 1), fun H' p' => ⟨n - (i + 1), by omega, rfl, hlt, p'⟩, fun x H' y => hs i x H H' hlt p (w.yields i H x H' hlt (hG i H hi p) y)⟩
  · obtain rfl : i = n := Nat.le_antisymm hi hge
    exact .inl ⟨w.stops H (hG i H hi p), hd H p⟩
end
end L2.D2

set_option Elab.async false
set_option linter.all false
set_option maxRecDepth 100000
set_option maxHeartbeats 4000000
/-! max of a tuple of ints -/
namespace L2
open PySem PySem.Spec PyProof.Rows PySem.W
section
variable {X : Cx}
theorem fmax_ge : ∀ (l : List Int) (a : Int), a ≤ l.foldl max a ∧ ∀ z ∈ l, z ≤ l.foldl max a
  | [], a => ⟨Int.le_refl _, fun z hz => nomatch hz⟩
  | b :: l, a => by
    obtain ⟨h1, h2⟩ := fmax_ge l (max a b)
    rw [List.foldl_cons]
    refine ⟨by omega, fun z hz => ?_⟩
    rcases List.mem_cons.mp hz with rfl | hz
    · omega
    · exact h2 z hz
def rMaxTu (K : PySem.W.Frag) : List V → Hp → VK → Prop := fun vs H Q => ∃ (a : Addr) (ns : List Int), vs = [V.ref a] ∧ SqT K H a (ns.map V.int) ∧ ns ≠ [] ∧ ∀ m : Int, m ∈ ns → (∀ z ∈ ns, z ≤ m) → Q (.int m) H
theorem cr_maxTu (hh : X.A.handled = none) (hu : X.A.units + 65 < cLine) : CallR X (.builtin "max") (rMaxTu X.K) := by
  intro pins s σ H vs us Q I r h
  obtain ⟨a, ns, rfl, hs, hne, q⟩ := h
  obtain ⟨its, rv, tc, hz⟩ := I.tuple hs
  rw [Vals.ref1 r]
  obtain ⟨n, l, rfl⟩ := List.exists_cons_of_ne_nil hne
  obtain ⟨as, ra⟩ := readsAll_ints (h := s.heap) rv
  have al : ∀ x ∈ PyData.int n :: l.map PyData.int, ∃ b, x = .int b := fun x hx => by
    rw [← List.map_cons] at hx
    obtain ⟨b, _, e⟩ := List.mem_map.mp hx
    exact ⟨b, e.symm⟩
  refine max_tuple_data (x := .int n) (xs := l.map PyData.int) hh tc (by simpa using ra) ⟨fun x hx y hy => ?_, fun x hx z => ?_⟩ ?_ fun i v h' tk cs hv hr kp => ?_
  · obtain ⟨b1, rfl⟩ := al x hx
    obtain ⟨b2, rfl⟩ := al y hy
    simp [alike]
  · obtain ⟨b1, rfl⟩ := al x hx
    cases z
  · have := depth_ints0 (n :: l)
    rw [List.map_cons] at this
    omega
  · have hv2 : its[i]? = some v := by simpa using hv
    have hi : i < (n :: l).length := by
      have hl := rv.length
      rw [List.length_map] at hl
      rw [hl]
      exact (List.getElem?_eq_some_iff.mp hv2).1
    obtain ⟨z, ez, rz⟩ := rv.get (i := i) (x := V.int (n :: l)[i]) (by rw [List.getElem?_map, List.getElem?_eq_getElem hi]; rfl)
    obtain rfl : v = z := Option.some.inj (hv2.symm.trans ez)
    obtain ⟨t, rfl⟩ := rz
    rw [maxD_ints] at hr
    obtain ⟨h1, h2⟩ := fmax_ge l n
    have e : (n :: l)[i] = l.foldl max n := reads_int1 hr
    exact ⟨.int _, H, I.kept kp, ⟨t, rfl⟩, q _ (List.getElem_mem hi) fun z hz => by
      rw [e]
      rcases List.mem_cons.mp hz with rfl | hz
      · exact h1
      · exact h2 z hz⟩
end
end L2

set_option Elab.async false
set_option linter.all false
set_option maxRecDepth 100000
set_option maxHeartbeats 2000000
/-! rules whose reading names K (not X.K), for use in a comprehension's own block; blkOk_in: a comprehension in a comprehension -/
namespace L2
open PySem PySem.Spec PyProof.Rows Tw
section
variable {X : Cx} {K : PySem.W.Frag} {tg : Expr}
theorem pi_listK {l : Expr} {tl : TE} (hK : X.K = K) (hl : PE X l tl) : PI X tg l (iList K tl) := by
  subst hK
  exact pi_list hl
theorem pi_tupK {l : Expr} {tl : TE} (hK : X.K = K) (hl : PE X l tl) : PI X tg l (iTup K tl) := by
  subst hK
  exact pi_tup hl
theorem pi_enSK {e : Expr} {ta : TA} {p pos tpos : Pos} {elts : List Expr} {kk : Nat} (hK : X.K = K) (hg : Gl X "enumerate") (hm : X.mg "enumerate" = Option.none) (ha : PA X [e] ta) (hs : starEach [e] X.env = [(false, eval e X.env)] := by rfl) :
    PI X (.Tuple elts kk tpos) (.Call (.Name "enumerate" p) [e] [] pos) (iEnS K ta) := by
  subst hK
  exact pi_enS hg hm ha hs
theorem pi_zipAK {e e2 : Expr} {ta : TA} {p pos tpos : Pos} {elts : List Expr} {kk : Nat} (hK : X.K = K) (hg : Gl X "zip") (hm : X.mg "zip" = none) (ha : PA X [e, e2] ta)
    (hs : starEach [e, e2] X.env = (false, eval e X.env) :: starEach [e2] X.env := by rfl) (hpl : (backTo pos (starEach [e2] X.env)).any (·.1) = false := by rfl) :
    PI X (.Tuple elts kk tpos) (.Call (.Name "zip" p) [e, e2] [] pos) (RZ.iZipA K ta) := by
  subst hK
  exact RZ.pi_zipA hg hm ha hs hpl
theorem pe_fldK {e : Expr} {f : Str} {pos : Pos} {ta : TE} (hK : X.K = K) (he : PE X e ta) (hb : attributeBase e f X.env (eval e X.env) = eval e X.env) : PE X (.Attribute e f pos) (tFld K ta f) := by
  subst hK
  exact pe_fld he hb
theorem pe_orK {a b : Expr} {rest : List Expr} {pos : Pos} {ta tb : TE} (hK : X.K = K) (ha : PE X a ta) (hb : PE X (.BoolOp .Or (b :: rest) pos) tb) : PE X (.BoolOp .Or (a :: b :: rest) pos) (tOrT K ta tb) := by
  subst hK
  exact pe_orT ha hb
theorem pe_andK {a b : Expr} {rest : List Expr} {pos : Pos} {ta tb : TE} (hK : X.K = K) (ha : PE X a ta) (hb : PE X (.BoolOp .And (b :: rest) pos) tb) : PE X (.BoolOp .And (a :: b :: rest) pos) (tAndT K ta tb) := by
  subst hK
  exact pe_andT ha hb
theorem pe_notK {a : Expr} {pos : Pos} {ta : TE} (hK : X.K = K) (ha : PE X a ta) : PE X (.UnaryOp .Not a pos) (tNotT K ta) := by
  subst hK
  exact pe_notT ha
def rDictP (K : PySem.W.Frag) : List V → Hp → VK → Prop := fun xs H Q => ∃ (a : Addr) (ps : List Addr) (kvs : List (Key × V)), xs = [.ref a] ∧ SqL K H a (ps.map V.ref) ∧ Paired (fun p kv => SqT K H p [kV kv.1, kv.2]) ps kvs ∧ ∀ p, H p = none → Q (.ref p) (upd H p (.dK (mergeK [] kvs)))
theorem call_dictPK (hc : X.calm = true) : CallR X (.type "dict") (rDictP X.K) := call_dictP hc
theorem blkOk_in {N : List Str} {s : Shared} {H : Hp} {C : Addr} {cl : List (Str × Addr)} {fp : List Addr} {sc0 sc1 scope : Scope} {own : List (Str × Nat)} (hN : X.N = N) (h0 : X.env.scope = sc0) (h : blkC N (relS sc1 sc0) scope own = true) :
    BlkOk (X.blk s H sc1 (compEnvC sc1 cl C X.env) fp).N (X.blk s H sc1 (compEnvC sc1 cl C X.env) fp).env.scope scope own := by
  subst hN
  subst h0
  exact blkOk_by h
end
end L2

set_option Elab.async false
set_option linter.all false
set_option maxRecDepth 100000
set_option maxHeartbeats 2000000
/-! == and != of an own class where the other operand is an instance of another own class -/
namespace Tw
open PySem PySem.Spec PyProof.Rows L2
open PySem.W (InstAt looks_findIn looks_subIn ifBound_K cmp_K)
theorem nf_kit {K : PySem.W.Frag} {C : Addr} {t : Value} (h : PySem.W.kitOne K t (.ref C) = some false) : PySem.W.notFirst K C t = true := by
  unfold PySem.W.kitOne at h
  split at h
  · cases h
  · unfold PySem.W.kitCls at h
    simp only at h
    split at h
    · unfold PySem.W.notFirst
      rw [h]
      simp
    · cases h
section
variable {X : Cx} {CX : CXT} {K : PySem.W.Frag} {k : Nat} {f C : Addr} {fd : FuncData} {ps : List Str} {sp : Sp} {E : XK}
def rEqX (K : PySem.W.Frag) (C : Addr) (sp : Sp) (E : XK) (neg : Bool) : R2 := fun x y H Q =>
  ∃ a dx fs b D dy gs, x = .ref a ∧ H a = some (.ins C dx fs) ∧ y = .ref b ∧ H b = some (.ins D dy gs) ∧ PySem.W.kitOne K (.ref D) (.ref C) = some false ∧ sp [.ref a, y] H (fun v H' => ∃ r, v = .bl r ∧ Q (.bl (if neg then !r else r)) H') E
theorem op_eq_ownX (hK : X.K = K) (c : EqC X.K C f) (F : FnOk X.prog X.w X.K X.mg X.base CX k f fd ps sp) (hr : Room k X.A) (hb : Binds X.K fd ps []) (hx : Passes CX X E) : OpR X (compareOp .Eq) (rEqX K C sp E false) := by
  subst hK
  intro pins s σ H x y v u Q I rx ry ⟨a, dx, fs, b, D, dy, gs, ex, ha, ey, hb', kt, q⟩
  subst ex
  subst ey
  obtain rfl : v = Value.ref a := rx
  obtain rfl : u = Value.ref b := ry
  obtain ⟨mA, O, rr, _, _, _⟩ := ins_get I.hok ha
  obtain ⟨od, J, hl⟩ := O.look
  obtain ⟨mB, O2, rr2, _, _, _⟩ := ins_get I.hok hb'
  obtain ⟨od2, J2, hl2⟩ := O2.look
  obtain ⟨m0, hF⟩ := I.fr
  show wpAny _ _ (richCompare .Eq (.ref a) (.ref b)) _ _ _
  refine cmp_K hr.units0 hF I.ok.mod.kin J J2.type (nf_kit kt) c.eq c.fn (thn (run_sub F ⟨hr, rfl⟩ hb hx I (.cons (relR a) (.cons (relR b) .nil)) q) fun r s' ⟨z, H', I', rz, b, ez, q'⟩ => ?_)
  subst ez
  obtain rfl : r = Value.bool b := rz
  exact ⟨_, H', I', relB b, q'⟩
theorem op_ne_ownX (hK : X.K = K) (c : EqC X.K C f) (F : FnOk X.prog X.w X.K X.mg X.base CX k f fd ps sp) (hr : Room (k + 1) X.A) (hb : Binds X.K fd ps []) (hx : Passes CX X E) : OpR X (compareOp .NotEq) (rEqX K C sp E true) := by
  subst hK
  intro pins s σ H x y v u Q I rx ry ⟨a, dx, fs, b, D, dy, gs, ex, ha, ey, hb', kt, q⟩
  subst ex
  subst ey
  obtain rfl : v = Value.ref a := rx
  obtain rfl : u = Value.ref b := ry
  obtain ⟨mA, O, rr, _, _, _⟩ := ins_get I.hok ha
  obtain ⟨od, J, hl⟩ := O.look
  obtain ⟨mB, O2, rr2, _, _, _⟩ := ins_get I.hok hb'
  obtain ⟨od2, J2, hl2⟩ := O2.look
  obtain ⟨m0, hF⟩ := I.fr
  show wpAny _ _ (richCompare .NotEq (.ref a) (.ref b)) _ _ _
  refine ne_K (Room.units0 hr.in1) hr.units0 hF I.ok.mod.kin J J2.type (nf_kit kt) c (thn (run_sub F (Sub.in1 ⟨hr, rfl⟩) hb hx I (.cons (relR a) (.cons (relR b) .nil)) q) fun r s' ⟨z, H', I', rz, b, ez, q'⟩ => ?_)
  subst ez
  exact ⟨b, rz, _, H', I', relB (!b), q'⟩
end
end Tw

set_option Elab.async false
set_option linter.all false
set_option maxRecDepth 100000
set_option maxHeartbeats 2000000
/-! d.setdefault(t, x), d a dict keyed by tuples of ints and texts -/
namespace Dt
open PySem PySem.Spec PyProof.Rows L2
section
variable {X : Cx} {pins : List (Addr × Obj)} {σ : L2.St} {H : Hp} {s : Shared} {a b : Addr} {r : Value} {d : V} {k : List L2.Key} {A : Around} {E : Value → Shared → Prop}
theorem d_setdT {kvs : List (List L2.Key × V)} {Q : Value → Shared → Prop} (hu : A.units + 1 < cLine) (I : Inv X pins σ H s) (e : H a = some (.dT kvs)) (eb : H b = some (.tup (k.map kV))) (rd : RelV d r) (hl : kvs.length < sizeLine)
    (h1 : ∀ v, valV kvs k = some v → ∀ (w' : Value) (s' : Shared), Inv X pins σ H s' → RelV v w' → Q w' s') (h2 : valV kvs k = none → ∀ (w' : Value) (s' : Shared), Inv X pins σ (upd H a (.dT (putK kvs k d))) s' → RelV d w' → Q w' s') :
    wpAny (model X.prog X.w) A (call (.builtin "dict.setdefault") [.ref a, .ref b, r]) Q E s := by
  obtain ⟨z, hd, xs, rel, dd⟩ := dt_of I.hok e
  have hz : xs.length ≤ sizeLine := by
    rw [← Paired.length rel]
    exact z
  refine call_setdefault_heap (hsz := hz) (tupleKind_room_in1 hu) (key_of I.hok eb) hd dd (fun p hp => ?_) fun hn h' dd' hs => ?_
  · have q := rel.val k
    rw [hp] at q
    cases q0 : valV kvs k with
    | none =>
      rw [q0] at q
      exact (show False from q).elim
    | some v0 =>
      rw [q0] at q
      exact h1 v0 q0 _ _ (I.tok _) q
  · have q := rel.val k
    rw [hn] at q
    cases q0 : valV kvs k with
    | some v0 =>
      rw [q0] at q
      exact (show False from q).elim
    | none =>
      have hl2 : (putK kvs k d).length ≤ sizeLine := by
        have := length_putK kvs k d
        omega
      obtain ⟨q, es, ep, hq, h2', h3, h4, _, h5⟩ := dd'
      refine h2 q0 _ _ (d_write (t' := _) I (by rw [e]; exact True.intro) hs ⟨q, hq⟩ ⟨hl2, hd, _, (rel.put k eb rd).keeps fun c ys ec => ?_, q, es, ep, hq, h2', h3, h4, h5⟩) rd
      rw [upd_ne (ne_of ec e (fun z => nomatch z))]
      exact ec
end
/-- d.setdefault(y, z) -/
def tDSetdT (td ty tx : TE) : TE := fun σ H Q => td σ H fun x H1 => ∃ a, x = .ref a ∧ IsD H1 a ∧ ty σ H1 fun y H2 => tx σ H2 fun z H3 => ∃ (kvs : List (List L2.Key × V)) (k : List L2.Key) (b : Addr), H3 a = some (.dT kvs) ∧ y = .ref b ∧ H3 b = some (.tup (k.map kV)) ∧ kvs.length < sizeLine ∧
  (∀ v, valV kvs k = some v → Q v H3) ∧ (valV kvs k = none → Q z (upd H3 a (.dT (putK kvs k z))))
section
variable {X : Cx} {o e f : Expr} {td ty tx : TE} {apos cpos : Pos}
theorem pe_dsetdT (hu : X.A.units + 1 < cLine) (ho : PE X o td) (he : PE X e ty) (hf : PE X f tx) (m : M2 X o "setdefault" apos e f cpos) : PE X (.Call (.Attribute o "setdefault" apos) [e, f] [] cpos) (tDSetdT td ty tx) := by
  refine ⟨fun pins s σ H Q I h => ?_⟩
  refine wpAny_Call_method m.base m.few m.line PySem.F.plainAttrs_dict PySem.F.slot_dict_setdefault PySem.F.type_dict_setdefault (thn (ho.run pins s σ H _ I h) fun u s1 ⟨x, H1, I1, rx, a, ex, d, q1⟩ => ?_)
  subst ex
  obtain rfl : u = Value.ref a := rx
  obtain ⟨t1, t2, _⟩ := isD_at I1 d
  refine ⟨t1, t2, ?_⟩
  rw [m.trees]
  refine Calls.callWith_builtin rfl (Calls.evalArgs_plain (Calls.spliced_cons (thn (he.run pins s1 σ H1 _ I1 q1) fun iv s2 ⟨y, H2, I2, ry, q2⟩ =>
    Calls.spliced_cons (thn (hf.run pins s2 σ H2 _ I2 q2) fun fv s3 ⟨z, H3, I3, rz, kvs, k, b, ea, ey, eb, hl, q3, q4⟩ => Calls.spliced_nil ?_))))
  subst ey
  obtain rfl : iv = Value.ref b := ry
  exact d_setdT hu I3 ea eb rz hl (fun v hv w' s4 I4 rw' => ⟨v, _, I4, rw', q3 v hv⟩) fun hn w' s4 I4 rw' => ⟨z, _, I4, rw', q4 hn⟩
end
end Dt

set_option Elab.async false
set_option linter.all false
set_option maxRecDepth 100000
set_option maxHeartbeats 2000000
/-! dicts keyed by pairs (a tuple of ints, an int), with objects as values: {}, d[(t, p)] = x at a new key, d.get((t, p)), len(d) -/
namespace Nd
open PySem PySem.Spec PyProof.Rows L2
abbrev Pk : Type := List Int × Int
def nkI (ms : List Int) : List NestedKey := ms.map NestedKey.num
def nk (k : Pk) : NestedKey := .tup [.tup (nkI k.1), .num k.2]
theorem nkI_inj : ∀ {a b : List Int}, nkI a = nkI b → a = b
  | [], [], _ => rfl
  | [], _ :: _, h => by cases h
  | _ :: _, [], h => by cases h
  | x :: a, y :: b, h => by
    have h : NestedKey.num x :: nkI a = NestedKey.num y :: nkI b := h
    injection h with h1 h2
    injection h1 with h1
    rw [h1, nkI_inj h2]
theorem nk_inj {a b : Pk} (h : nk a = nk b) : a = b := by
  unfold nk at h
  injection h with h
  injection h with h1 h2
  injection h1 with h1
  injection h2 with h2 _
  injection h2 with h2
  exact Prod.ext (nkI_inj h1) h2
theorem nkI_deep : ∀ ms : List Int, NestedKey.depthAll (nkI ms) = 0
  | [] => rfl
  | x :: ms => by
    show max (NestedKey.depth (.num x)) (NestedKey.depthAll (nkI ms)) = 0
    rw [nkI_deep ms]
    rfl
theorem nk_deep (k : Pk) : (nk k).depth ≤ 8 := by
  show max (NestedKey.depthAll (nkI k.1) + 1) (max (NestedKey.depth (.num k.2)) 0) + 1 ≤ 8
  rw [nkI_deep]
  show max 1 (max 0 0) + 1 ≤ 8
  decide
theorem nest_ints {h : Heap} : ∀ {ms : List Int} {its : List Value}, Vals (ms.map V.int) its → NestedAll h (nkI ms) its
  | [], _, .nil => .nil
  | _ :: _, _, .cons ⟨t, e⟩ r => by
    subst e
    exact .cons (.int _ _) (nest_ints r)
section
variable {P : Program} {w : World} {H : Hp} {h : Heap}
theorem key_is {b t : Addr} {ms : List Int} {p : Int} (ok : HOk P w H h) (e : H b = some (.tup [.ref t, .int p])) (e2 : H t = some (.tup (ms.map V.int))) : (nestedKind P w).is h (nk (ms, p)) b := by
  obtain ⟨_, its, r, o, h1, h2, n, h3⟩ := (show ObjOk P w H h b (.tup [.ref t, .int p]) from ok b _ e)
  obtain ⟨_, its2, r2, o2, g1, g2, n2, g3⟩ := (show ObjOk P w H h t (.tup (ms.map V.int)) from ok t _ e2)
  refine ⟨?_, nk_deep _⟩
  cases r with
  | cons ra rr =>
    cases rr with
    | cons rb rc =>
      cases rc
      obtain rfl := (show _ = Value.ref t from ra)
      obtain ⟨t', rfl⟩ := rb
      refine .tup h1 h2 h3 ?_
      refine .cons (.tup g1 g2 g3 ?_) (.cons (.int _ _) .nil)
      simpa using nest_ints r2
end
/-- an entry: the key, the tuple that is the key, the value -/
abbrev En : Type := Pk × Addr × Addr
def nx (x : En) : NestedKey × Addr × Value := (nk x.1, x.2.1, .ref x.2.2)
def ndRaw (P : Program) (w : World) (a : Addr) (xs : List En) (h : Heap) : Prop :=
  xs.length ≤ sizeLine ∧ (a == sysModules) = false ∧ ∃ o es ep, h.get? a = some o ∧ o.ExactDict ∧ o.data = .dict es ep ∧ es.toList = (xs.map nx).map (entryOfKey (nestedKind P w)) ∧ ((xs.map nx).map (·.1)).Nodup
def ND (P : Program) (w : World) (a : Addr) (xs : List En) : HO := .ext (ndRaw P w a xs)
def KOk (H : Hp) (xs : List En) : Prop := ∀ x ∈ xs, ∃ t, H x.2.1 = some (.tup [.ref t, .int x.1.2]) ∧ H t = some (.tup (x.1.1.map V.int))
def valN (xs : List En) (k : Pk) : Option Addr := (xs.find? fun x => decide (x.1 = k)).map (·.2.2)
theorem valN_at (k : Pk) : ∀ xs : List En, (atKey (xs.map nx) (nk k)).map (·.2) = (valN xs k).map Value.ref
  | [] => rfl
  | x :: xs => by
    have ih := valN_at k xs
    unfold atKey valN at ih ⊢
    rw [List.map_cons, List.find?_cons, List.find?_cons]
    by_cases e : x.1 = k
    · rw [decide_eq_true (show (nx x).1 = nk k by unfold nx; rw [e]), decide_eq_true e]
      rfl
    · rw [decide_eq_false (show ¬ (nx x).1 = nk k from fun z => e (nk_inj z)), decide_eq_false e]
      exact ih
section
variable {X : Cx} {pins : List (Addr × Obj)} {σ : L2.St} {H : Hp} {s : Shared} {a : Addr}
theorem nd_raw {xs : List En} (I : Inv X pins σ H s) (e : H a = some (ND X.prog X.w a xs)) : ndRaw X.prog X.w a xs s.heap :=
  (show ObjOk X.prog X.w H s.heap a (ND X.prog X.w a xs) from I.hok a _ e).1
theorem nd_at {xs : List En} (I : Inv X pins σ H s) (e : H a = some (ND X.prog X.w a xs)) (hk : KOk H xs) : s.heap.DictOfH (nestedKind X.prog X.w) a (xs.map nx) := by
  obtain ⟨_, _, o, es, ep, h1, h2, h3, h4, h5⟩ := nd_raw I e
  refine ⟨o, es, ep, h1, h2, h3, h4, fun x hx => ?_, h5⟩
  obtain ⟨y, hy, rfl⟩ := List.mem_map.mp hx
  obtain ⟨t, e1, e2⟩ := hk y hy
  exact key_is I.hok e1 e2
theorem nd_type {xs : List En} (I : Inv X pins σ H s) (e : H a = some (ND X.prog X.w a xs)) :
    s.TypeIs (.ref a) "dict" ∧ ∀ b, Value.ref a = .ref b → ∃ ob, s.heap.get? b = some ob ∧ ob.dict = none := by
  obtain ⟨_, _, o, es, ep, h1, h2, h3, h4, h5⟩ := nd_raw I e
  refine ⟨⟨o, h1, h2.1⟩, fun b q => ?_⟩
  cases q
  exact ⟨o, h1, h2.2.1⟩
theorem nd_ok {P : Program} {w : World} {H : Hp} {h : Heap} {xs : List En} (r : ndRaw P w a xs h) : ObjOk P w H h a (ND P w a xs) := by
  obtain ⟨_, _, o, _, _, h1, _⟩ := id r
  refine ⟨r, ⟨o, h1⟩, fun g1 g2 p k => ?_⟩
  obtain ⟨z, y, o, es, ep, h1, h2⟩ := p
  exact ⟨z, y, o, es, ep, k _ h1, h2⟩
theorem in8 {A : Around} (hu : A.units + 64 < cLine) : A.in1.units + 8 < cLine := by
  show A.units + 1 + 8 < cLine
  omega
end
/-- {} -/
def tNew (P : Program) (w : World) : TE := fun _ H Q => ∀ p, H p = none → Q (.ref p) (upd H p (ND P w p []))
section
variable {X : Cx} {pos : Pos}
theorem pe_dnewN : PE X (.Dict [] [] pos) (tNew X.prog X.w) := ⟨fun pins s σ H Q I h =>
  wpAny_Dict_empty ⟨.ref s.heap.objs.size, _, I.laid (a := s.heap.objs.size) (o := ND X.prog X.w s.heap.objs.size []) (t' := s.toks) (fun _ _ q => Heap.get?_push_of_some _ q) (Nat.le_refl _)
    (nd_ok ⟨Nat.zero_le _, beq_eq_false_iff_ne.mpr (Ne.symm (Nat.ne_of_lt I.big)), _, #[], 0, Heap.get?_push_size _ rfl, ⟨rfl, rfl, rfl⟩, rfl, rfl, List.nodup_nil⟩), rfl, h _ (I.hok.fresh (Nat.le_refl _))⟩⟩
end
/-- d[y] = v, y a new key -/
def sPut (P : Program) (w : World) (td ty tv : TE) : TS := fun D σ H => tv σ H fun v H1 => td σ H1 fun x H2 => ty σ H2 fun y H3 =>
  ∃ (a b c t : Addr) (xs : List En) (k : Pk), x = .ref a ∧ v = .ref c ∧ y = .ref b ∧ H3 a = some (ND P w a xs) ∧ KOk H3 xs ∧ H3 b = some (.tup [.ref t, .int k.2]) ∧ H3 t = some (.tup (k.1.map V.int)) ∧ valN xs k = none ∧ xs.length < sizeLine ∧
    D.nx σ (upd H3 a (ND P w a (xs ++ [(k, b, c)])))
section
variable {X : Cx} {o i value : Expr} {td ty tv : TE} {pos pos' : Pos}
theorem ps_put (hu : X.A.units + 64 < cLine) (ho : PE X o td) (hi : PE X i ty) (hv : PE X value tv) (hs : swapsWith value (some (.Subscript o i pos')) pos.line X.env = pure false) :
    PS X (.Assign [.Subscript o i pos'] value pos) (sPut X.prog X.w td ty tv) := by
  refine ⟨fun pins s σ H D I h => ?_⟩
  refine wpAny_Assign_Subscript (thn (hv.run pins s σ H _ I h) fun r s1 ⟨v, H1, I1, rv, q1⟩ => thn (ho.run pins s1 σ H1 _ I1 q1) fun u s2 ⟨x, H2, I2, rx, q2⟩ => thn (hi.run pins s2 σ H2 _ I2 q2) fun iv s3 ⟨y, H3, I3, ry, a, b, c, t, xs, k, ex, ev, ey, ea, hk, eb, et, hn, hl, q3⟩ => ?_) hs
  subst ex ev ey
  obtain rfl : u = Value.ref a := rx
  obtain rfl : r = Value.ref c := rv
  obtain rfl : iv = Value.ref b := ry
  have hat : atKey (xs.map nx) (nk k) = none := by
    have h := valN_at k xs
    rw [hn] at h
    exact Option.map_eq_none_iff.mp h
  refine wpAny_setItem_heap (hsz := by rw [List.length_map]; omega) (in8 hu) (key_is I3.hok eb et) (nd_at I3 ea hk) fun h' dd' hs' => ⟨σ, _, ?_, q3⟩
  rw [show (k.1, k.2) = k from rfl, storedH_new hat] at dd'
  obtain ⟨z, y, _⟩ := nd_raw I3 ea
  obtain ⟨q, es, ep, hq, h2, h3, h4, _, h5⟩ := dd'
  refine d_write I3 (by rw [ea]; exact True.intro) hs' ⟨q, hq⟩ (nd_ok ⟨by rw [List.length_append]; exact hl, y, q, es, ep, hq, h2, h3, ?_, ?_⟩)
  · rw [List.map_append]
    exact h4
  · rw [List.map_append]
    exact h5
end
/-- d.get(y) -/
def tGet (P : Program) (w : World) (td ty : TE) : TE := fun σ H Q => td σ H fun x H1 => ∃ a xs0, x = .ref a ∧ H1 a = some (ND P w a xs0) ∧ ty σ H1 fun y H2 =>
  ∃ (b t : Addr) (xs : List En) (k : Pk), y = .ref b ∧ H2 a = some (ND P w a xs) ∧ KOk H2 xs ∧ H2 b = some (.tup [.ref t, .int k.2]) ∧ H2 t = some (.tup (k.1.map V.int)) ∧ Q (((valN xs k).map V.ref).getD .non) H2
section
variable {X : Cx} {o e : Expr} {td ty : TE} {apos cpos : Pos}
theorem pe_get (hu : X.A.units + 64 < cLine) (ho : PE X o td) (he : PE X e ty) (m : M1 X o "get" apos e cpos) : PE X (.Call (.Attribute o "get" apos) [e] [] cpos) (tGet X.prog X.w td ty) := by
  refine ⟨fun pins s σ H Q I h => ?_⟩
  refine wpAny_Call_method m.base m.few m.line PySem.F.plainAttrs_dict PySem.F.slot_dict_get PySem.F.type_dict_get (thn (ho.run pins s σ H _ I h) fun u s1 ⟨x, H1, I1, rx, a, xs0, ex, d, q1⟩ => ?_)
  subst ex
  obtain rfl : u = Value.ref a := rx
  obtain ⟨t1, t2⟩ := nd_type I1 d
  refine ⟨t1, t2, ?_⟩
  rw [m.trees]
  refine Calls.callWith_builtin rfl (Calls.evalArgs_plain (Calls.spliced_cons (thn (he.run pins s1 σ H1 _ I1 q1) fun iv s2 ⟨y, H2, I2, ry, b, t, xs, k, ey, ea, hk, eb, et, q2⟩ => Calls.spliced_nil ?_)))
  subst ey
  obtain rfl : iv = Value.ref b := ry
  obtain ⟨z, hd, _⟩ := nd_raw I2 ea
  have dd := nd_at I2 ea hk
  refine call_meetsIn PySem.F.slot_dict_get dd.typeIs PySem.F.entry_dict_get (PySem.F.args_dict_get_2 _ _) (meetsH_dict_get (nestedKind X.prog X.w) a b hd) ⟨in8 hu, nk k, xs.map nx, key_is I2.hok eb et, dd, ?_⟩
  rw [valN_at]
  refine ⟨((valN xs k).map V.ref).getD .non, H2, I2.tok _, ?_, q2⟩
  cases valN xs k with
  | none => rfl
  | some c => rfl
end
/-- len(d) -/
def rLenN (P : Program) (w : World) : List V → Hp → VK → Prop := fun xs H Q => ∃ (p : Addr) (es : List En), xs = [.ref p] ∧ H p = some (ND P w p es) ∧ KOk H es ∧ Q (.int ((es.length : Nat) : Int)) H
theorem call_lenN {X : Cx} : CallR X (.builtin "len") (rLenN X.prog X.w) := by
  intro pins s σ H xs us Q I r h
  obtain ⟨p, es, rfl, hp, hk, q⟩ := h
  obtain ⟨u, rfl, rx⟩ := vals1 r
  obtain rfl : u = .ref p := rx
  obtain ⟨z, hd, _⟩ := nd_raw I hp
  refine call_len_dictH hd (nd_at I hp hk) (by rw [List.length_map]; rw [sizeLine_eq] at z; omega) ?_
  rw [List.length_map]
  exact ⟨.int es.length, H, I.tok _, ⟨_, rfl⟩, q⟩
end Nd

set_option Elab.async false
set_option linter.all false
set_option maxRecDepth 100000
set_option maxHeartbeats 2000000
/-! max(xs, key=len), xs a list of tuples -/
namespace Ml
open PySem PySem.Spec PyProof.Rows L2 LamX
def tMaxLen (K : PySem.W.Frag) (te : TE) : TE := fun σ H Q => te σ H fun v H1 => ∃ (a : Addr) (xs : List V) (ls : Nat → Nat), v = .ref a ∧ SqL K H1 a xs ∧ 0 < xs.length ∧
  (∀ (j : Nat) (y : V), xs[j]? = some y → ∃ (t : Addr) (ys : List V), y = .ref t ∧ SqT K H1 t ys ∧ ls j = ys.length) ∧
  ∀ (j : Nat) (y : V), Lm.FirstMost (fun i => ((ls i : Nat) : Int)) xs.length j → xs[j]? = some y → Q y H1
section
variable {X : Cx} {pins : List (Addr × Obj)} {σ : L2.St} {H : Hp} {s : Shared}
theorem moved_inv {S it : Addr} {s4 s5 : Shared} (I : Inv X pins σ H s4) (fS : FpOk X pins H S) (fI : FpOk X pins H it) (m : Moved [S, it] (fun a b => b = a) s4 s5) : Inv X pins σ H s5 := by
  have e5 : s5 = { s4 with heap := s5.heap, toks := s5.toks } := by
    obtain ⟨hp, g, d, tk, os⟩ := s5
    have h1 : g = s4.gens := m.gens
    have h2 : d = s4.drawn := m.drawn
    have h3 : os = s4.os := m.os
    subst h1 h2 h3
    rfl
  rw [e5]
  exact I.turnedL (ch := [S, it]) (fun c o hc ho => m.heap c o hc ho) (fun b hb => by
    rcases List.mem_cons.mp hb with z | hb
    · rw [z]; exact fS
    · rw [List.mem_singleton.mp hb]; exact fI)
theorem max_run {a : Addr} {xs : List V} {ls : Nat → Nat} {Q : VK} (I2 : Inv X pins σ H s) (hh : X.A.handled = none) (hsq : SqL X.K H a xs) (hne : 0 < xs.length)
    (qk : ∀ (j : Nat) (y : V), xs[j]? = some y → ∃ (t : Addr) (ys : List V), y = .ref t ∧ SqT X.K H t ys ∧ ls j = ys.length)
    (qf : ∀ (j : Nat) (y : V), Lm.FirstMost (fun i => ((ls i : Nat) : Int)) xs.length j → xs[j]? = some y → Q y H) :
    wpAny (model X.prog X.w) X.A (call (.builtin "max") [.ref a] [(Str.ofString "key", .builtin "len")]) (EP X pins σ Q) X.xe s := by
  have hsq : Zm.SqM X.K false H a xs := hsq
  obtain ⟨its, rv0, p0⟩ := Zm.sq_get I2 hsq
  have hnI := I2.hok.fresh (Nat.le_refl s.heap.objs.size)
  have alt := Zm.hSq_lt p0
  obtain ⟨n, en⟩ : ∃ n, xs.length = n + 1 := ⟨xs.length - 1, by omega⟩
  refine call_max_walkKB (Zm.newM p0 ?_)
  have szp : (s.heap.push (Zm.oIt false a)).objs.size = s.heap.objs.size + 1 := Heap.size_push ..
  have ltp : s.heap.objs.size < (s.heap.push (Zm.oIt false a)).objs.size := by rw [szp]; exact Nat.lt_succ_self _
  have fpI : FpOk X pins H s.heap.objs.size := I2.fpOk (Nat.le_refl _) hnI
  have fpS : FpOk X pins H (s.heap.push (Zm.oIt false a)).objs.size := I2.fpOk (Nat.le_of_lt ltp) (I2.hok.fresh (Nat.le_of_lt ltp))
  refine ⟨s.heap.objs.size, _, _, _, xs.length, _, _, fun s' => Inv X pins σ H s', fun i k _ => ∃ t, k = .int ((ls i : Nat) : Int) t, fun i j => decide (((ls i : Nat) : Int) > ((ls j : Nat) : Int)), rfl, Lm.walkM (prog := X.prog) (w := X.w) (A := X.A.in1) hh false s.heap.objs.size a (Nat.ne_of_lt alt) xs,
    ⟨Zm.hIt_young (Heap.get?_push_size _ rfl), its, rv0, Zm.hSq_up p0 fun o e => Heap.get?_push_of_some _ e⟩, fun b hb => ?_, hne, ⟨?_, ?_, ?_, ?_⟩, ?_, ?_⟩
  · show b < (s.heap.push (Zm.oIt false a)).objs.size
    rcases List.mem_cons.mp hb with z | hb
    · rw [z]; exact ltp
    · rw [List.mem_singleton.mp hb]; exact Nat.lt_trans alt ltp
  · intro s4 s5 k' m
    exact moved_inv k' fpS fpI m
  · exact fun i k s1 s' v _ => v
  · rintro j v s4 o Q' E' hj ⟨y, hy, ry⟩ k' stI hS cont
    obtain ⟨t, ys, rfl, ht, el⟩ := qk j y hy
    obtain rfl : v = Value.ref t := ry
    obtain ⟨it2, r', pl, hz⟩ := k'.tuple ht
    have hlen := r'.length
    have hn := line63
    refine len_tuple pl (by simp only [List.size_toArray] <;> omega) ?_
    exact cont _ _ (k'.tok _) stI hS ⟨_, by rw [List.size_toArray, el, hlen]⟩ fun _ _ z => z
  · intro i j ki kj s4 Q' E' _ vi vj q'
    exact CmpOf.ints_gt (prog := X.prog) (w := X.w) (A := X.A.in1) (P := fun i v => ∃ t, v = .int ((ls i : Nat) : Int) t) (fun i => ((ls i : Nat) : Int)) (fun i v h => h) i j ki kj s4 Q' E' vi vj q'
  · exact I2.kept (t' := s.toks) fun b o e => Heap.get?_push_of_some _ e
  · rintro v s5 ⟨y, hy, ry⟩ k'
    refine ⟨y, H, k', ry, qf _ y ?_ hy⟩
    rw [en, Nat.add_sub_cancel]
    exact Lm.most_is (fun i => ((ls i : Nat) : Int)) n
variable {e : Expr} {te : TE} {p p2 kpos pos : Pos}
theorem pe_maxlen (hg : Gl X "max") (hm : X.mg "max" = none) (hg2 : Gl X "len") (hm2 : X.mg "len" = none) (he : PE X e te) (hh : X.A.handled = none) (hs : starEach [e] X.env = (false, eval e X.env) :: starEach [] X.env := by rfl) :
    PE X (.Call (.Name "max" p) [e] [⟨some "key", .Name "len" p2, kpos⟩] pos) (tMaxLen X.K te) := by
  refine ⟨fun pins s σ H Q I h => ?_⟩
  refine wpAny_Call_Name_kw (ld_blt I hg hm (u := .builtin "max") (by decide +kernel) ?_)
  refine PyProof.Rows.callWith_kw ?_ (by rw [hs]; rfl) (by rw [hs]; rfl) (by rfl) (by rfl)
  rw [hs]
  show wpAny _ _ (spliced ((false, eval e X.env) :: backTo pos (starEach [] X.env))) _ _ s
  refine Calls.spliced_cons (thn (he.run pins s σ H _ I h) fun u s1 ⟨v, H1, I1, r1, a, xs, ls, ev, hl, hne, qk, qf⟩ => Calls.spliced_nil ?_)
  subst ev
  obtain rfl : u = Value.ref a := r1
  show wpAny _ _ (evalAll ((do let v ← eval (.Name "len" p2) X.env; standAt pos; pure v) :: [])) _ _ s1
  refine wpAny_evalAll_cons (wpAny_bind (ld_blt I1 hg2 hm2 (u := .builtin "len") (by decide +kernel) (wpAny_bind (wpAny_standAt (wpAny_pure (wpAny_evalAll_nil ?_))))))
  exact max_run I1 hh hl hne qk qf
end
end Ml

set_option Elab.async false
set_option linter.all false
set_option maxRecDepth 100000
set_option maxHeartbeats 2000000
/-! xs.remove(y), xs a list of plain things (tuples of ints), y there -/
namespace Rm
open PySem PySem.Spec PyProof.Rows L2 SeqAt
section
variable {X : Cx}
def rRemD (K : PySem.W.Frag) : V → List V → Hp → VK → Prop := fun x xs H Q => ∃ (l : Addr) (vs : List V) (ds : List PyData) (y : V) (d : PyData) (j : Nat), x = .ref l ∧ xs = [y] ∧ H l = some (.lst vs) ∧ DpAll K H vs ds ∧ Dp K H y d ∧ PyData.plainAll ds = true ∧ d.plain = true ∧ d.depth ≤ 60 ∧ dataPlace ds d = some j ∧
  Q .non (upd H l (.lst (vs.eraseIdx j)))
theorem mt_removeD (hu : X.A.units + 64 < cLine) : MtM X "list.remove" (rRemD X.K) := by
  intro pins s σ H x xs v us Q I rx rxs h
  obtain ⟨l, vs, ds, y, d, j, rfl, rfl, hH, hds, hd, hp1, hp2, hdd, hj, q⟩ := h
  cases rx
  obtain ⟨u, rfl, ru⟩ := rxs.one
  obtain ⟨z, its, n, r, hl, e⟩ := I.lstM hH
  obtain ⟨as, r1⟩ := Dp.readsAll I ds vs its hds r
  obtain ⟨bs, r2⟩ := Dp.reads I d y u hd ru
  have e' : s.heap.IsList l its.toArray := ⟨_, e, rfl, n, rfl⟩
  refine remove_list_data (j := j) e' (by simpa using r1) r2 hp1 hp2 (by have := Nat.min_le_right (PyData.depthAll ds) d.depth; omega) hj (by rw [List.size_toArray]; omega) ?_
  have rr := r.eraseIdx j
  refine ⟨.non, _, I.lset (its' := its.eraseIdx j) (t' := s.toks) hH e ?_ rr ?_, rfl, q⟩
  · show its.toArray.eraseIdxIfInBounds j = (its.eraseIdx j).toArray
    rw [List.eraseIdxIfInBounds_toArray]
  · have := List.length_eraseIdx_le vs j
    omega
end
end Rm

set_option Elab.async false
set_option linter.all false
set_option maxRecDepth 100000
set_option maxHeartbeats 2000000
/-! x in t, x not in t: t a tuple of plain things (tuples of ints) -/
namespace Td
open PySem PySem.Spec PyProof.Rows L2
section
variable {X : Cx}
def rInDT (K : PySem.W.Frag) : R2 := fun x y H Q => ∃ d ds, Dp K H x d ∧ Dp K H y (.tuple ds) ∧ SeqAt.shaped d = true ∧ SeqAt.shaped (.list ds) = true ∧ Q (.bl (ds.any fun z => PyData.eqv z d)) H
def rNotInDT (K : PySem.W.Frag) : R2 := fun x y H Q => ∃ d ds, Dp K H x d ∧ Dp K H y (.tuple ds) ∧ SeqAt.shaped d = true ∧ SeqAt.shaped (.list ds) = true ∧ Q (.bl (!ds.any fun z => PyData.eqv z d)) H
theorem op_inDT (hu : X.A.units + 65 < cLine) : OpR X (compareOp .In) (rInDT X.K) := by
  intro pins s σ H x y v u Q I rx ry h
  obtain ⟨d, ds, hd, he, sd, se, q⟩ := h
  obtain ⟨as, r1⟩ := Dp.reads I d x v hd rx
  obtain ⟨bs, r2⟩ := Dp.reads I (.tuple ds) y u he ry
  exact SeqAt.in_tuple_reads r2 r1 (SeqAt.canLay_of_shaped se) (SeqAt.canLay_of_shaped sd) (room_in_shaped sd hu) ⟨.bl _, H, I, rfl, q⟩
theorem op_notInDT (hu : X.A.units + 65 < cLine) : OpR X (compareOp .NotIn) (rNotInDT X.K) := by
  intro pins s σ H x y v u Q I rx ry h
  obtain ⟨d, ds, hd, he, sd, se, q⟩ := h
  obtain ⟨as, r1⟩ := Dp.reads I d x v hd rx
  obtain ⟨bs, r2⟩ := Dp.reads I (.tuple ds) y u he ry
  exact SeqAt.notIn_tuple_reads r2 r1 (SeqAt.canLay_of_shaped se) (SeqAt.canLay_of_shaped sd) (room_in_shaped sd hu) ⟨.bl _, H, I, rfl, q⟩
end
end Td

set_option Elab.async false
set_option linter.all false
set_option maxRecDepth 100000
set_option maxHeartbeats 2000000
/-! list(zip(xs, ys)), two lists -/
namespace Lz
open PySem PySem.Spec PyProof.Rows L2
/-- a zip under way, whose tuples stay out -/
def ZSt (xs ys : Array Value) (h : Heap) (z TI TO i1 i2 l1 l2 S : Addr) (i : Nat) : Prop :=
  IsPair h TI (.ref i1) (.ref i2) ∧ h.IsListIter i1 l1 i ∧ h.IsListIter i2 l2 i ∧ h.IsList l1 xs ∧ h.IsList l2 ys ∧
    ((IsZip h z TI TO .none ∧ ∃ a b, IsPair h TO a b) ∨ ∃ T f oT, IsZipHeld h z TI TO T f ∧ h.get? T = some oT ∧ T ≠ z ∧ T ≠ i1 ∧ T ≠ i2 ∧ T ≠ S)
structure Off (z TI TO i1 i2 l1 l2 S : Addr) : Prop where
  z : z ≠ S
  ti : TI ≠ S
  to : TO ≠ S
  i1 : i1 ≠ S
  i2 : i2 ≠ S
  l1 : l1 ≠ S
  l2 : l2 ≠ S
theorem ZSt.keep {xs ys : Array Value} {h h' : Heap} {z TI TO i1 i2 l1 l2 S : Addr} {i : Nat} (st : ZSt xs ys h z TI TO i1 i2 l1 l2 S i) (o : Off z TI TO i1 i2 l1 l2 S) (hk : ∀ b o, b ≠ S → h.get? b = some o → h'.get? b = some o) : ZSt xs ys h' z TI TO i1 i2 l1 l2 S i := by
  obtain ⟨hTI, h1, h2, hl1, hl2, hz⟩ := st
  refine ⟨hk _ _ o.ti hTI, h1.at fun u e => hk _ u o.i1 e, h2.at fun u e => hk _ u o.i2 e, hl1.at fun u e => hk _ u o.l1 e, hl2.at fun u e => hk _ u o.l2 e, ?_⟩
  rcases hz with ⟨hz, a, b, hTO⟩ | ⟨T, f, oT, hz, hT, r1, r2, r3, r4⟩
  · exact .inl ⟨hk _ _ o.z hz, a, b, hk _ _ o.to hTO⟩
  · exact .inr ⟨T, f, oT, hk _ _ o.z hz, hk _ _ r4 hT, r1, r2, r3, r4⟩
section
variable {prog : Program} {w : World} {A : Around} {E : Value → Shared → Prop} {s : Shared}
theorem z_item {z TI TO i1 i2 l1 l2 S : Addr} {xs ys : Array Value} {i : Nat} {x y : Value} {Q : Option Value → Shared → Prop} (D : ZipApart z TI TO i1 i2 l1 l2) (st : ZSt xs ys s.heap z TI TO i1 i2 l1 l2 S i) (hS : S < s.heap.objs.size) (ex : xs[i]? = some x) (ey : ys[i]? = some y)
    (hQ : ∀ h', ZSt xs ys h' z TI TO i1 i2 l1 l2 S (i + 1) → h'.get? s.heap.objs.size = some { cls := .type "tuple", data := .seq #[x, y] } → h'.objs.size = s.heap.objs.size + 1 →
      (∀ c o, c ≠ z → c ≠ TO → c ≠ i1 → c ≠ i2 → s.heap.get? c = some o → h'.get? c = some o) → Q (some (.ref s.heap.objs.size)) { s with heap := h' }) :
    wpAny (model prog w) A (pyNext (.ref z)) Q E s := by
  obtain ⟨hTI, h1, h2, hl1, hl2, hz⟩ := st
  have lt : ∀ {c o}, s.heap.get? c = some o → s.heap.objs.size ≠ c := fun e => Nat.ne_of_gt (Heap.lt_size e)
  have n1 : s.heap.objs.size ≠ i1 := let ⟨_, e, _⟩ := h1; lt e
  have n2 : s.heap.objs.size ≠ i2 := let ⟨_, e, _⟩ := h2; lt e
  rcases hz with ⟨hz, a, b, hTO⟩ | ⟨T, f, oT, hz, hT, r1, r2, r3, r4⟩
  · refine wpAny_pyNext_zip_item D hz hTI hTO h1 h2 hl1 hl2 ex ey fun h' a1 a2 a3 a4 a5 a6 hk => ?_
    exact hQ h' ⟨hk _ _ D.TIz D.TITO D.TIi1 D.TIi2 hTI, a3, a4, hl1.at fun o e => hk _ o D.l1z D.l1TO D.l1i1 D.l1i2 e, hl2.at fun o e => hk _ o D.l2z D.l2TO D.l2i1 D.l2i2 e,
      .inr ⟨s.heap.objs.size, false, _, a1, a5, lt hz, n1, n2, Nat.ne_of_gt hS⟩⟩ a5 a6 hk
  · refine wpAny_pyNext_zip_item_held D hz hT hTI h1 h2 hl1 hl2 ex ey fun h' a1 a3 a4 a5 a6 hk => ?_
    exact hQ h' ⟨hk _ _ D.TIz D.TIi1 D.TIi2 hTI, a3, a4, hl1.at fun o e => hk _ o D.l1z D.l1i1 D.l1i2 e, hl2.at fun o e => hk _ o D.l2z D.l2i1 D.l2i2 e,
      .inr ⟨T, true, oT, a1, hk _ _ r1 r2 r3 hT, r1, r2, r3, r4⟩⟩ a5 a6 fun c o c1 _ c3 c4 e => hk c o c1 c3 c4 e
theorem z_done {z TI TO i1 i2 l1 l2 S : Addr} {xs ys : Array Value} {i : Nat} {Q : Option Value → Shared → Prop} (hh : A.handled = none) (D : ZipApart z TI TO i1 i2 l1 l2) (st : ZSt xs ys s.heap z TI TO i1 i2 l1 l2 S i) (hend : xs[i]? = none ∨ ys[i]? = none)
    (hQ : ∀ h', (∀ c o, c ≠ z → c ≠ TO → c ≠ i1 → c ≠ i2 → s.heap.get? c = some o → h'.get? c = some o) → Q none { s with heap := h' }) :
    wpAny (model prog w) A (pyNext (.ref z)) Q E s := by
  obtain ⟨hTI, h1, h2, hl1, hl2, hz⟩ := st
  rcases hz with ⟨hz, a, b, hTO⟩ | ⟨T, f, oT, hz, hT, r1, r2, r3, r4⟩
  · exact wpAny_pyNext_zip_end hh D hz hTI hTO h1 h2 hl1 hl2 hend fun h' hk => hQ h' hk
  · exact wpAny_pyNext_zip_end_held hh D hz hT hTI h1 h2 hl1 hl2 hend fun h' hk => hQ h' fun c o c1 _ c3 c4 e => hk c o c1 c3 c4 e
end
/-- the tuples made -/
structure ZG (xs ys : Array Value) (lo : Addr) (h : Heap) (as : List Addr) : Prop where
  rise : as.Pairwise (· < ·)
  above : ∀ a ∈ as, lo < a
  pairs : ∀ (j : Nat) (a : Addr), as[j]? = some a → ∃ x y, xs[j]? = some x ∧ ys[j]? = some y ∧ h.get? a = some { cls := .type "tuple", data := .seq #[x, y] }
theorem ZG.there {xs ys : Array Value} {lo : Addr} {h : Heap} {as : List Addr} (g : ZG xs ys lo h as) {a : Addr} (ha : a ∈ as) : a < h.objs.size := by
  obtain ⟨j, hj⟩ := List.mem_iff_getElem?.mp ha
  obtain ⟨_, _, _, _, e⟩ := g.pairs j a hj
  exact Heap.lt_size e
section
variable {prog : Program} {w : World} {A : Around} {s : Shared} {R : Result → Shared → Prop} {xs ys : Array Value} {z TI TO i1 i2 l1 l2 S : Addr}
theorem z_loop (hh : A.handled = none) (D : ZipApart z TI TO i1 i2 l1 l2) (of : Off z TI TO i1 i2 l1 l2 S) (bz : z < S) (bTO : TO < S) (b1 : i1 < S) (b2 : i2 < S) (hxy : xs.size = ys.size) (hn : xs.size ≤ sizeLine) (res : Value) {h₁ : Heap}
    (hR : ∀ h' acc c as, (∀ b o, b ≠ S → b ≠ z → b ≠ TO → b ≠ i1 → b ≠ i2 → h₁.get? b = some o → h'.get? b = some o) → h'.get? S = some { cls := .type "list", dict := none, data := .seq acc c, slots := #[] } → as.length = xs.size → ZG xs ys S h' as →
      acc.toList = as.map Value.ref → R (.ok (.ret res)) { s with heap := h' }) :
    ∀ (k i : Nat) (h : Heap) (c : Nat) (acc : Array Value) (as : List Addr), xs.size - i = k → i ≤ xs.size → ZSt xs ys h z TI TO i1 i2 l1 l2 S i → (∀ b o, b ≠ S → b ≠ z → b ≠ TO → b ≠ i1 → b ≠ i2 → h₁.get? b = some o → h.get? b = some o) →
      h.get? S = some { cls := .type "list", dict := none, data := .seq acc c, slots := #[] } → acc.toList = as.map Value.ref → as.length = i → ZG xs ys S h as →
      codeAny (model prog w) A (.builtin "list.extend.loop" ⟨[.ref S, .ref z, res], []⟩) R { s with heap := h } := by
  intro k
  induction k with
  | zero =>
    intro i h c acc as hk hi hst hkeep hS hacc hal hG
    have hin : i = xs.size := by omega
    refine codeAny_builtin PySem.F.entry_extend_loop ?_
    rw [Around.under_plainId PySem.F.plain_extend_loop _]
    show wpAny _ A.in1 (pyNext (.ref z) >>= _) _ _ _
    refine wpAny_bind (z_done (s := { s with heap := h }) (A := A.in1) hh D hst (.inl (Array.getElem?_eq_none (by omega))) fun h' he => ?_)
    refine wpAny_pure (hR h' acc c as (fun b o h1 h2 h3 h4 h5 e => he b o h2 h3 h4 h5 (hkeep b o h1 h2 h3 h4 h5 e)) (he S _ of.z.symm of.to.symm of.i1.symm of.i2.symm hS) (by omega) ⟨hG.rise, hG.above, fun j a hj => ?_⟩ hacc)
    obtain ⟨x, y, e1, e2, e3⟩ := hG.pairs j a hj
    have hab := hG.above a (List.mem_of_getElem? hj)
    exact ⟨x, y, e1, e2, he a _ (Nat.ne_of_gt (Nat.lt_trans bz hab)) (Nat.ne_of_gt (Nat.lt_trans bTO hab)) (Nat.ne_of_gt (Nat.lt_trans b1 hab)) (Nat.ne_of_gt (Nat.lt_trans b2 hab)) e3⟩
  | succ k ih =>
    intro i h c acc as hk hi hst hkeep hS hacc hal hG
    have hlt : i < xs.size := by omega
    have hx : xs[i]? = some xs[i] := Array.getElem?_eq_getElem hlt
    have hy : ys[i]? = some (ys[i]'(by omega)) := Array.getElem?_eq_getElem (by omega)
    generalize xs[i] = x at hx
    generalize ys[i]'(by omega) = y at hy
    have hsz : acc.size = i := by rw [← Array.length_toList, hacc, List.length_map, hal]
    refine codeAny_builtin PySem.F.entry_extend_loop ?_
    rw [Around.under_plainId PySem.F.plain_extend_loop _]
    show wpAny _ A.in1 (pyNext (.ref z) >>= _) _ _ _
    refine wpAny_bind (z_item (s := { s with heap := h }) D hst (Heap.lt_size hS) hx hy fun h' hst' ht hz hkp => ?_)
    dsimp only at ht hz hkp ⊢
    have hS' := hkp S _ of.z.symm of.to.symm of.i1.symm of.i2.symm hS
    have up : ∀ b o, b ≠ S → h'.get? b = some o → (h'.update S (Obj.mapSeq (·.push (Value.ref h.objs.size)))).get? b = some o := fun b o hb e => (Heap.get?_update_other _ _ (Ne.symm hb)).trans e
    have hSl : S < h.objs.size := Heap.lt_size hS
    show wpAny _ A.in1 (updateSeq S (·.push (Value.ref h.objs.size)) >>= _) _ _ _
    refine wpAny_bind ?_
    refine wpAny_updateSeq hS' rfl (wpAny_pure ⟨plainId_quiet PySem.F.plain_extend_loop _, ih (i + 1) _ _ (acc.push (Value.ref h.objs.size)) (as ++ [h.objs.size]) (by omega) hlt (hst'.keep of up)
      (fun b o h1 h2 h3 h4 h5 e => up b o h1 (hkp b o h2 h3 h4 h5 (hkeep b o h1 h2 h3 h4 h5 e))) (Heap.get?_update_self _ hS' rfl) (by rw [Array.toList_push, hacc, List.map_append]; rfl) (by rw [List.length_append, hal]; rfl) ⟨?_, ?_, ?_⟩⟩) (by rw [hsz]; omega) (by show (acc.push (Value.ref h.objs.size)).size ≤ sizeLine + 1; rw [Array.size_push, hsz]; omega)
    · refine List.pairwise_append.mpr ⟨hG.rise, List.pairwise_singleton _ _, fun a ha b hb => ?_⟩
      rw [List.mem_singleton.mp hb]
      exact hG.there ha
    · intro a ha
      rcases List.mem_append.mp ha with ha | ha
      · exact hG.above a ha
      · rw [List.mem_singleton.mp ha]; exact hSl
    · intro j b hj
      rcases Nat.lt_trichotomy j as.length with h1 | h1 | h1
      · rw [List.getElem?_append_left h1] at hj
        obtain ⟨x', y', e1, e2, e3⟩ := hG.pairs j b hj
        have hab := hG.above b (List.mem_of_getElem? hj)
        exact ⟨x', y', e1, e2, up b _ (Nat.ne_of_gt hab) (hkp b _ (Nat.ne_of_gt (Nat.lt_trans bz hab)) (Nat.ne_of_gt (Nat.lt_trans bTO hab)) (Nat.ne_of_gt (Nat.lt_trans b1 hab)) (Nat.ne_of_gt (Nat.lt_trans b2 hab)) e3)⟩
      · subst h1
        have hb : h.objs.size = b := by simpa using hj
        subst hb
        exact ⟨x, y, by rw [hal]; exact hx, by rw [hal]; exact hy, up _ _ (Nat.ne_of_gt hSl) ht⟩
      · have hnone : (as ++ [h.objs.size])[j]? = none := List.getElem?_eq_none (by rw [List.length_append, List.length_singleton]; omega)
        rw [hnone] at hj; cases hj
theorem zip_no_len : typeLookup (.type "zip") "__len__" = pure none := am_miss_of_fast (by decide +kernel)
theorem zip_no_hint : typeLookup (.type "zip") "__length_hint__" = pure none := am_miss_of_fast (by decide +kernel)
theorem z_extend (hh : A.handled = none) (D : ZipApart z TI TO i1 i2 l1 l2) (of : Off z TI TO i1 i2 l1 l2 S) (bz : z < S) (bTO : TO < S) (b1 : i1 < S) (b2 : i2 < S) (hxy : xs.size = ys.size) (hn : xs.size ≤ sizeLine) (res : Value) (c₀ : Nat)
    (hst : ZSt xs ys s.heap z TI TO i1 i2 l1 l2 S 0) (hz : IsZip s.heap z TI TO .none) (hS : s.heap.get? S = some { cls := .type "list", data := .seq #[] c₀ })
    (hR : ∀ h' acc c as, (∀ b o, b ≠ S → b ≠ z → b ≠ TO → b ≠ i1 → b ≠ i2 → s.heap.get? b = some o → h'.get? b = some o) → h'.get? S = some { cls := .type "list", dict := none, data := .seq acc c, slots := #[] } → as.length = xs.size → ZG xs ys S h' as →
      acc.toList = as.map Value.ref → R (.ok (.ret res)) { s with heap := h' }) :
    wpAny (model prog w) A.in1 (Builtin.List.listExtendWith (.ref S) (.ref z) res)
      (fun fin s' => match fin with | .done f => R (.ok f) s' | .again c' => c'.quiet = true ∧ codeAny (model prog w) A c' R s') (fun e s' => R (.error e) s') s := by
  have hT : s.TypeIs (.ref z) "zip" := ⟨_, hz, rfl⟩
  unfold Builtin.List.listExtendWith
  refine wpAny_bind (wpAny_typeOf hT ?_)
  have h1 : Builtin.List.listSameRef (.ref S) (.ref z) = false := by simp [Builtin.List.listSameRef, of.z.symm]
  have h2 : (Value.type "zip" == Value.type "list") = false := by decide
  have h3 : (Value.type "zip" == Value.type "tuple") = false := by decide
  simp only [h1, h2, h3, Bool.or_false, Bool.false_eq_true, if_false]
  refine wpAny_bind (wpAny_pyIter_zip hz ?_)
  refine wpAny_bind (wpAny_holding ?_)
  unfold Builtin.List.listLengthHint
  refine wpAny_bind (wpAny_specialOf hT zip_no_len ?_)
  show wpAny _ A.in1 (specialOf (Value.ref z) (Str.ofString "__length_hint__") >>= _) _ _ _
  refine wpAny_bind (wpAny_specialOf hT zip_no_hint ?_)
  refine wpAny_pure ?_
  show wpAny _ A.in1 (rule "list.extend.makes-room" >>= fun _ => Builtin.List.listTouch (.ref S) >>= fun _ =>
    again (.builtin "list.extend.loop" ⟨[.ref S, .ref z, res], []⟩)) _ _ _
  refine wpAny_bind (wpAny_rule ?_)
  refine wpAny_bind ?_
  show wpAny _ A.in1 (updateSeq S (·.push .none) >>= fun _ => updateSeq S (·.pop)) _ _ _
  refine wpAny_bind (wpAny_updateSeq hS rfl ?_)
  have hS₂ := Heap.get?_update_self (Obj.mapSeq (·.push Value.none)) hS rfl
  refine wpAny_updateSeq (hz := by seq_fits) hS₂ rfl ?_
  have hS₃ := Heap.get?_update_self (Obj.mapSeq (·.pop)) hS₂ rfl
  have oth : ∀ b o, b ≠ S → s.heap.get? b = some o → ((s.heap.update S (Obj.mapSeq (·.push Value.none))).update S (Obj.mapSeq (·.pop))).get? b = some o :=
    fun b o hb e => (Heap.get?_update_other _ _ (Ne.symm hb)).trans ((Heap.get?_update_other _ _ (Ne.symm hb)).trans e)
  exact wpAny_pure ⟨plainId_quiet PySem.F.plain_extend_loop _, z_loop (s := s) (h₁ := s.heap) hh D of bz bTO b1 b2 hxy hn res hR xs.size 0 _ _ _ [] (by omega) (Nat.zero_le _) (hst.keep of oth) (fun b o hb _ _ _ _ e => oth b o hb e) hS₃ rfl rfl ⟨List.Pairwise.nil, (fun _ ha => nomatch ha), (fun j a hj => by simp at hj)⟩⟩
theorem z_init (hh : A.handled = none) (D : ZipApart z TI TO i1 i2 l1 l2) (of : Off z TI TO i1 i2 l1 l2 S) (bz : z < S) (bTO : TO < S) (b1 : i1 < S) (b2 : i2 < S) (hxy : xs.size = ys.size) (hn : xs.size ≤ sizeLine)
    (hst : ZSt xs ys s.heap z TI TO i1 i2 l1 l2 S 0) (hz : IsZip s.heap z TI TO .none) (hS : s.heap.get? S = some { cls := .type "list", data := .seq #[] })
    (hR : ∀ h' acc c as, (∀ b o, b ≠ S → b ≠ z → b ≠ TO → b ≠ i1 → b ≠ i2 → s.heap.get? b = some o → h'.get? b = some o) → h'.get? S = some { cls := .type "list", dict := none, data := .seq acc c, slots := #[] } → as.length = xs.size → ZG xs ys S h' as →
      acc.toList = as.map Value.ref → R (.ok (.ret .none)) { s with heap := h' }) :
    wpAny (model prog w) A.in1 (Builtin.«list.__init__» ⟨[.ref S, .ref z], []⟩)
      (fun fin s' => match fin with | .done f => R (.ok f) s' | .again c' => c'.quiet = true ∧ codeAny (model prog w) A c' R s') (fun e s' => R (.error e) s') s := by
  show wpAny _ _ (do let old ← Builtin.List.listItems (.ref S); Builtin.List.listUpdate (.ref S) (fun _ => #[]); letGo old.toList.reverse; Builtin.List.listExtendWith (.ref S) (.ref z) .none) _ _ s
  refine wpAny_bind ?_
  unfold Builtin.List.listItems
  refine wpAny_bind (wpAny_seqItems hS rfl (wpAny_pure ?_))
  show wpAny _ _ (updateSeq S (fun _ => #[]) >>= fun _ => letGo (#[] : Array Value).toList.reverse >>= fun _ => Builtin.List.listExtendWith (.ref S) (.ref z) .none) _ _ s
  refine wpAny_bind (wpAny_updateSeq hS rfl ?_)
  have hS₂ := Heap.get?_update_self (Obj.mapSeq (fun _ => (#[] : Array Value))) hS rfl
  have oth : ∀ b o, b ≠ S → s.heap.get? b = some o → (s.heap.update S (Obj.mapSeq (fun _ => (#[] : Array Value)))).get? b = some o :=
    fun b o hb e => (Heap.get?_update_other _ _ (Ne.symm hb)).trans e
  refine wpAny_bind (wpAny_letGo ?_)
  refine z_extend (s := { s with heap := s.heap.update S (Obj.mapSeq (fun _ => (#[] : Array Value))) }) hh D of bz bTO b1 b2 hxy hn .none _ (hst.keep of oth) (oth _ _ of.z hz) hS₂ (fun h' acc c as hk hS' hl hG hacc => ?_)
  exact hR h' acc c as (fun b o hb h2 h3 h4 h5 e => hk b o hb h2 h3 h4 h5 (oth b o hb e)) hS' hl hG hacc
theorem z_call {E : Value → Shared → Prop} {Q : Value → Shared → Prop} (hh : A.handled = none) (D : ZipApart z TI TO i1 i2 l1 l2) (hxy : xs.size = ys.size) (hn : xs.size ≤ sizeLine)
    (hst : ∀ S, s.heap.objs.size ≤ S → ZSt xs ys s.heap z TI TO i1 i2 l1 l2 S 0) (hz : IsZip s.heap z TI TO .none) (lz : z < s.heap.objs.size ∧ TI < s.heap.objs.size ∧ TO < s.heap.objs.size ∧ i1 < s.heap.objs.size ∧ i2 < s.heap.objs.size ∧ l1 < s.heap.objs.size ∧ l2 < s.heap.objs.size)
    (hQ : ∀ h' acc c as, (∀ b o, b ≠ z → b ≠ TO → b ≠ i1 → b ≠ i2 → s.heap.get? b = some o → h'.get? b = some o) → h'.get? s.heap.objs.size = some { cls := .type "list", dict := none, data := .seq acc c, slots := #[] } → as.length = xs.size → ZG xs ys s.heap.objs.size h' as →
      acc.toList = as.map Value.ref → Q (.ref s.heap.objs.size) { s with heap := h' }) :
    wpAny (model prog w) A (call (.type "list") [.ref z]) Q E s := by
  refine callType_codes (Q₁ := fun obj s₁ => obj = .ref s.heap.objs.size ∧ s₁ = { s with heap := s.heap.push { cls := .type "list", data := .seq #[] } }) PySem.F.called_list (PySem.F.typeCall_list_1 _) PySem.F.entry_list_init
    (code_list_new _ ⟨rfl, rfl⟩) fun obj s₁ h₁ => ?_
  obtain ⟨rfl, rfl⟩ := h₁
  have hS : (s.heap.push { cls := .type "list", data := .seq #[] }).get? s.heap.objs.size = some { cls := .type "list", data := .seq #[] } := Heap.get?_push_size _ rfl
  obtain ⟨a1, a2, a3, a4, a5, a6, a7⟩ := lz
  have of : Off z TI TO i1 i2 l1 l2 s.heap.objs.size := ⟨Nat.ne_of_lt a1, Nat.ne_of_lt a2, Nat.ne_of_lt a3, Nat.ne_of_lt a4, Nat.ne_of_lt a5, Nat.ne_of_lt a6, Nat.ne_of_lt a7⟩
  refine ⟨⟨_, hS, rfl⟩, PySem.F.args_list_init_2 _ _, z_init (A := A.in1) (s := { s with heap := s.heap.push { cls := .type "list", data := .seq #[] } }) hh D of a1 a3 a4 a5 hxy hn ((hst _ (Nat.le_refl _)).keep of fun b o _ e => Heap.get?_push_of_some _ e) (Heap.get?_push_of_some _ hz) hS (fun h' acc c as hk hS' hl hG hacc => ?_)⟩
  exact ⟨rfl, hQ h' acc c as (fun b o h2 h3 h4 h5 e => hk b o (Nat.ne_of_lt (Heap.lt_size e)) h2 h3 h4 h5 (Heap.get?_push_of_some _ e)) hS' hl hG hacc⟩
end
/-- the tuples tracked -/
def putZ : Hp → List Addr → List (V × V) → Hp
  | H, a :: as, p :: ps => putZ (upd H a (.tup [p.1, p.2])) as ps
  | H, _, _ => H
theorem putZ_off {b : Addr} : ∀ (as : List Addr) (ps : List (V × V)) (H : Hp), b ∉ as → putZ H as ps b = H b
  | [], _, _, _ => rfl
  | _ :: _, [], _, _ => rfl
  | a :: as, p :: ps, H, h => by
    show putZ (upd H a (.tup [p.1, p.2])) as ps b = H b
    rw [putZ_off as ps _ (fun z => h (List.mem_cons_of_mem _ z)), upd_ne (fun z => h (by rw [z]; exact List.mem_cons_self))]
theorem putZ_at : ∀ (as : List Addr) (ps : List (V × V)) (H : Hp), as.length = ps.length → as.Nodup → Paired (fun (t : Addr) (p : V × V) => putZ H as ps t = some (.tup [p.1, p.2])) as ps
  | [], [], _, _, _ => .nil
  | [], _ :: _, _, h, _ => by cases h
  | _ :: _, [], _, h, _ => by cases h
  | a :: as, p :: ps, H, h, hn => by
    have hn' := List.nodup_cons.mp hn
    have ih := putZ_at as ps (upd H a (.tup [p.1, p.2])) (Nat.succ.inj h) hn'.2
    refine .cons ?_ ih
    show putZ (upd H a (.tup [p.1, p.2])) as ps a = some (.tup [p.1, p.2])
    rw [putZ_off as ps _ hn'.1, upd_same]
def rZipL (K : PySem.W.Frag) (vs : List V) (H : Hp) (Q : VK) : Prop := ∃ (a b : Addr) (xs ys : List V), vs = [.ref a, .ref b] ∧ SqL K H a xs ∧ SqL K H b ys ∧ xs.length = ys.length ∧
  ∀ (H' : Hp) (p : Addr) (ts : List Addr), (∀ b o, H b = some o → H' b = some o) → H p = none → (∀ t ∈ ts, H t = none) → p ∉ ts → H' p = some (.lst (ts.map V.ref)) → Paired (fun (t : Addr) (q : V × V) => H' t = some (.tup [q.1, q.2])) ts (xs.zip ys) → Q (.ref p) H'
def tListZip (K : PySem.W.Frag) (ta : TA) : TE := fun σ H Q => ta σ H fun vs H1 => rZipL K vs H1 Q
section
variable {X : Cx} {e e2 : Expr} {ta : TA} {p p2 pos pos2 : Pos}
theorem zips_laid {pins : List (Addr × Obj)} {σ : L2.St} {H : Hp} {s : Shared} {h' : Heap} {S : Addr} {xs ys : List V} {us vs : List Value} {acc : Array Value} {c : Nat} {as : List Addr} (I : Inv X pins σ H s) (hSs : s.heap.objs.size ≤ S) (hz : xs.length ≤ sizeLine) (hxy : xs.length = ys.length) (rx : Vals xs us) (ry : Vals ys vs)
    (hk : ∀ b o, s.heap.get? b = some o → h'.get? b = some o) (hS : h'.get? S = some { cls := .type "list", dict := none, data := .seq acc c, slots := #[] }) (hl : as.length = us.length) (hG : ZG us.toArray vs.toArray S h' as) (hacc : acc.toList = as.map Value.ref) :
    ∃ H' : Hp, (∀ b o, H b = some o → H' b = some o) ∧ H S = none ∧ (∀ t ∈ as, H t = none) ∧ S ∉ as ∧ H' S = some (.lst (as.map V.ref)) ∧ Paired (fun (t : Addr) (q : V × V) => H' t = some (.tup [q.1, q.2])) as (xs.zip ys) ∧ Inv X pins σ H' { s with heap := h' } := by
  have lx := rx.length
  have ly := ry.length
  have lz : (xs.zip ys).length = xs.length := by rw [List.length_zip]; omega
  have hSn : S ∉ as := fun z => Nat.lt_irrefl _ (hG.above _ z)
  have nd : as.Nodup := List.Pairwise.imp (fun {a b} (h : a < b) => Nat.ne_of_lt h) hG.rise
  have new : ∀ t ∈ as, H t = none := fun t ht => I.hok.fresh (Nat.le_trans hSs (Nat.le_of_lt (hG.above t ht)))
  have newS : H S = none := I.hok.fresh hSs
  have atP := putZ_at as (xs.zip ys) (upd H S (.lst (as.map V.ref))) (by omega) nd
  have off : ∀ b, b ∉ as → b ≠ S → putZ (upd H S (.lst (as.map V.ref))) as (xs.zip ys) b = H b := fun b h1 h2 => by rw [putZ_off as _ _ h1, upd_ne h2]
  have low : ∀ b o, s.heap.get? b = some o → b ∉ as ∧ b ≠ S := fun b o e => ⟨fun z => absurd (Nat.lt_of_lt_of_le (Heap.lt_size e) hSs) (Nat.not_lt.mpr (Nat.le_of_lt (hG.above b z))), Nat.ne_of_lt (Nat.lt_of_lt_of_le (Heap.lt_size e) hSs)⟩
  have kp : ∀ b u, H b = some u → (putZ (upd H S (.lst (as.map V.ref))) as (xs.zip ys)) b = some u := fun b u e => by
    rw [off b (fun z => by rw [new b z] at e; cases e) (fun z => by rw [z, newS] at e; cases e)]
    exact e
  have eS : putZ (upd H S (.lst (as.map V.ref))) as (xs.zip ys) S = some (.lst (as.map V.ref)) := by rw [putZ_off as _ _ hSn, upd_same]
  refine ⟨putZ (upd H S (.lst (as.map V.ref))) as (xs.zip ys), kp, newS, new, hSn, eS, atP, ?_⟩
  refine I.call' (s' := { s with heap := h' }) (ch := []) rfl ⟨fun b o q _ _ _ => hk b o q, fun b o q _ _ _ => ⟨o.slots, hk b o q⟩, fun b o q n _ => ?_, fun b o q _ => ⟨o, hk b o q⟩, fun b xs q => kp b _ q, fun b o u q => kp b _ q, fun b ps q => ⟨#[], by rw [kp b _ q]; simp⟩⟩ (fun b u q => ?_) I.bare fun b z => by simp at z
  · obtain ⟨z1, z2⟩ := low b o q
    rw [off b z1 z2]
    exact n
  · by_cases hb : b ∈ as
    · obtain ⟨j, pk, e1, e2, e3⟩ := LiI.paired_ix atP hb
      rw [e3] at q
      cases q
      obtain ⟨x, y, f1, f2, f3⟩ := hG.pairs j b e1
      obtain ⟨hj, e2⟩ := List.getElem?_eq_some_iff.mp e2
      have hjx : j < xs.length := by omega
      have e4 : pk = (xs[j], ys[j]'(by omega)) := by rw [← e2, List.getElem_zip]
      subst e4
      obtain ⟨x', g1, r1⟩ := rx.get (List.getElem?_eq_getElem hjx)
      obtain ⟨y', g2, r2⟩ := ry.get (List.getElem?_eq_getElem (show j < ys.length by omega))
      have f1' : us[j]? = some x := by simpa using f1
      have f2' : vs[j]? = some y := by simpa using f2
      rw [f1'] at g1
      rw [f2'] at g2
      cases g1
      cases g2
      exact ⟨by show 2 ≤ sizeLine; decide, [x, y], .cons r1 (.cons r2 .nil), ⟨_, f3, rfl, _, rfl⟩⟩
    · by_cases hb2 : b = S
      · rw [hb2] at q ⊢
        rw [eS] at q
        cases q
        refine ⟨by rw [List.length_map]; omega, acc.toList, c, by rw [hacc]; exact LiI.vals_refs as, ?_⟩
        rw [Array.toArray_toList]
        exact hS
      · rw [off b hb hb2] at q
        exact (I.hok b u q).stay (fun d v _ y => hk d v y) (fun d y => kp d _ y) fun d xs y => kp d _ y
/-- list(zip(e, e2)) -/
theorem pe_listZip (hc : X.calm = true) (ha : PA X [e, e2] ta) (hg : Gl X "list") (hm : X.mg "list" = none) (hv : bootBuiltins "list" = some (.type "list")) (hgz : Gl X "zip") (hmz : X.mg "zip" = none)
    (hs : starEach [.Call (.Name "zip" p2) [e, e2] [] pos2] X.env = (false, eval (.Call (.Name "zip" p2) [e, e2] [] pos2) X.env) :: starEach [] X.env := by rfl)
    (hs2 : starEach [e, e2] X.env = (false, eval e X.env) :: starEach [e2] X.env := by rfl) (hpl : (backTo pos2 (starEach [e2] X.env)).any (·.1) = false := by rfl) :
    PE X (.Call (.Name "list" p) [.Call (.Name "zip" p2) [e, e2] [] pos2] [] pos) (tListZip X.K ta) := by
  refine ⟨fun pins s σ H Q I hq => ?_⟩
  refine wpAny_Call_Name_kw (ld_blt I hg hm hv ?_)
  refine PyProof.Rows.callWith_type1 ?_ hs rfl
  rw [hs]
  show wpAny _ _ (spliced ((false, eval (.Call (.Name "zip" p2) [e, e2] [] pos2) X.env) :: backTo pos (starEach [] X.env))) _ _ s
  refine Calls.spliced_cons ?_
  refine Call_ (ld_blt I hgz hmz PyProof.Rows.boot_zip (PyProof.Rows.callWith_type1 (thn (ha.run pos2 pins s σ H _ I hq) fun us s1 ⟨vs, H1, I1, r1, q1⟩ => ?_) hs2 hpl))
  obtain ⟨a, b, xs, ys, rfl, qx, qy, hxy, q⟩ := q1
  obtain ⟨u1, us, rfl, r, r1⟩ : ∃ u1 us', us = u1 :: us' ∧ RelV (.ref a) u1 ∧ Vals [.ref b] us' := by cases r1 with | cons r rr => exact ⟨_, _, rfl, r, rr⟩
  obtain ⟨u2, rfl, r2⟩ := vals1 r1
  cases r
  cases r2
  obtain ⟨is1, rx, px, hx1⟩ := I1.list qx
  obtain ⟨is2, ry, py, hy1⟩ := I1.list qy
  have px := px.isList
  have py := py.isList
  have lx := rx.length
  have ly := ry.length
  have la : a < s1.heap.objs.size := let ⟨_, e1, _⟩ := px; Heap.lt_size e1
  have lb : b < s1.heap.objs.size := let ⟨_, e1, _⟩ := py; Heap.lt_size e1
  refine Zm.callM (t1 := false) (t2 := false) px py ?_
  have gt := fun i o e f => Zm.pushes_get (Zm.zNew s1.heap.objs.size false false a b) s1.heap i o e f
  have kp := fun c o e => Zm.pushes_keep (Zm.zNew s1.heap.objs.size false false a b) s1.heap c o e
  have hsz : (Zm.pushes s1.heap (Zm.zNew s1.heap.objs.size false false a b)).objs.size = s1.heap.objs.size + 5 := Zm.pushes_size _ _
  refine Calls.spliced_nil ?_
  have z0 := gt 0 _ rfl rfl
  have z1 := gt 1 _ rfl rfl
  have z2 := gt 2 _ rfl rfl
  have z3 := gt 3 _ rfl rfl
  have z4 := gt 4 _ rfl rfl
  generalize hN : s1.heap.objs.size = N at *
  have nN : ∀ i j : Nat, i ≠ j → ¬ @Eq Addr (N + i) (N + j) := fun i j h => Zm.nA (by omega)
  have nl : ∀ (c : Nat) (i : Nat), @LT.lt Nat _ c N → ¬ @Eq Addr c (N + i) := fun c i h => Zm.nA (by omega)
  have D : ZipApart (N + 4) (N + 2) (N + 3) N (N + 1) a b :=
    ⟨nN 2 4 (by decide), nN 3 4 (by decide), nN 0 4 (by decide), nN 1 4 (by decide), nN 2 3 (by decide), nN 2 0 (by decide), nN 2 1 (by decide), nN 3 0 (by decide), nN 3 1 (by decide), nN 0 1 (by decide),
      nl a 4 la, nl a 3 la, nl a 0 la, nl a 1 la, nl b 4 lb, nl b 3 lb, nl b 0 lb, nl b 1 lb⟩
  refine z_call (s := { s1 with heap := Zm.pushes s1.heap (Zm.zNew N false false a b) }) (xs := is1.toArray) (ys := is2.toArray) (I1.ok.hd hc) D (by rw [List.size_toArray, List.size_toArray]; omega) (by rw [List.size_toArray]; omega) (fun S _ => ?_) z4 ?_ fun h' acc c as hk hS hl hG hacc => ?_
  · exact ⟨z2, ⟨_, z0, rfl, rfl⟩, ⟨_, z1, rfl, rfl⟩, Heap.IsList.at px fun o e => kp _ o e, Heap.IsList.at py fun o e => kp _ o e, .inl ⟨z4, _, _, z3⟩⟩
  · show _ < (Zm.pushes s1.heap (Zm.zNew N false false a b)).objs.size ∧ _
    rw [hsz]
    have la : @LT.lt Nat _ a N := la
    have lb : @LT.lt Nat _ b N := lb
    exact ⟨by show @LT.lt Nat _ _ _; omega, by show @LT.lt Nat _ _ _; omega, by show @LT.lt Nat _ _ _; omega, by show @LT.lt Nat _ _ _; omega, by show @LT.lt Nat _ _ _; omega, by show @LT.lt Nat _ _ _; omega, by show @LT.lt Nat _ _ _; omega⟩
  · have hk1 : ∀ c o, s1.heap.get? c = some o → h'.get? c = some o := fun c o e => by
      have hc : @LT.lt Nat _ c N := hN ▸ Heap.lt_size e
      exact hk c o (nl c 4 hc) (nl c 3 hc) (nl c 0 hc) (nl c 1 hc) (kp c o e)
    obtain ⟨H', k1, k2, k3, k4, k5, k6, J⟩ := zips_laid (S := (Zm.pushes s1.heap (Zm.zNew N false false a b)).objs.size) I1 (by rw [hsz, hN]; exact Nat.le_add_right _ _) (by omega) hxy rx ry hk1 hS (by rw [hl, List.size_toArray]) hG hacc
    exact ⟨.ref _, H', J, rfl, q H' _ as k1 k2 k3 k4 k5 k6⟩
end
end Lz

set_option Elab.async false
set_option linter.all false
set_option maxRecDepth 100000
set_option maxHeartbeats 2000000
/-! own: the end's facts by addresses that are functions of the heap's part; one Bool for all of them -/
namespace Sh
open PySem PySem.Spec PyProof.Rows L2
section
variable {Kf : PySem.W.Frag}
/-- where things stand -/
def gA (Kf : PySem.W.Frag) (n : Str) : Addr := (match PySem.W.nsIn Kf mainGlobals n with | some (some (.ref z)) => z | _ => 0)
def mA (Kf : PySem.W.Frag) (cl : Addr) (n : Str) : Addr := (match PySem.W.findIn Kf (.ref cl) n with | some (some (.ref z)) => z | _ => 0)
def recA (Kf : PySem.W.Frag) (p : Addr) (n : String) : Addr := (match PySem.W.recIn Kf p n with | some (.ref z :: _) => z | _ => 0)
def recT (Kf : PySem.W.Frag) (p : Addr) (n : String) : List Value := (match PySem.W.recIn Kf p n with | some (_ :: r) => r | _ => [])
def clsA (Kf : PySem.W.Frag) (cl : Addr) (n : Str) : Addr := (match PySem.W.findCls Kf (.ref cl) (.type "type") n with | some (.get _ (.ref z) _ _) => z | _ => 0)
def tokI (Kf : PySem.W.Frag) (o : Addr) (n : Str) : Tok := (match PySem.W.nsIn Kf o n with | some (some (.int _ t)) => t | _ => default)
def tokS (Kf : PySem.W.Frag) (o : Addr) (n : Str) : Tok := (match PySem.W.nsIn Kf o n with | some (some (.str _ t)) => t | _ => default)
def fdA (Kf : PySem.W.Frag) (p : Addr) : Option FuncData := (match Kf.lookup p with | some z => (match z.data with | .func y => some y | _ => none) | none => none)
def kwA (Kf : PySem.W.Frag) (p : Addr) : Addr := (match fdA Kf p with | some y => (match y.kwdefaults with | .ref z => z | _ => 0) | none => 0)
def cdA (Kf : PySem.W.Frag) (p : Addr) : Addr := (match fdA Kf p with | some y => (match y.code with | .ref z => z | _ => 0) | none => 0)
def refB : Value → Bool
  | .ref _ => true
  | _ => false
def noB : Value → Bool
  | .none => true
  | _ => false
end
/-- one function: where it stands, what it is -/
structure FnA where
  pl : PySem.W.Frag → Addr
  nm : Str
  qn : Str
  pr : Arguments
  bd : List Stmt
  sc : Scope
abbrev FV : Type := Option (Str × Str × Arguments × FuncBody × Scope × Addr × List (Str × Addr) × Addr)
def fnV (Kf : PySem.W.Frag) (p : Addr) : FV := (match fdA Kf p with
  | some y => some (y.name, y.qualname, y.params, y.body, y.scope, y.globals, y.closure, y.builtins)
  | none => none)
def FnA.val (d : FnA) : FV := some (d.nm, d.qn, d.pr, FuncBody.stmts d.bd, d.sc, mainGlobals, [], builtinsNs)
/-- kw: its own table of keyword defaults; cd: its code object is named -/
def fnB (Kf : PySem.W.Frag) (p : Addr) (q : Str) (kw : Bool) : Bool := PySem.W.keepIn Kf (.ref p) && (match fdA Kf p with
  | some y => PySem.W.codeIn Kf y.code q && (noB y.defaults && (!kw || refB y.kwdefaults))
  | none => false)
theorem fdA_some {Kf : PySem.W.Frag} {p : Addr} {y : FuncData} (h : fdA Kf p = some y) : ∃ oc od sl, Kf.lookup p = some ⟨oc, od, .func y, sl⟩ := by
  unfold fdA at h
  cases e : Kf.lookup p with
  | none => rw [e] at h; cases h
  | some z =>
    obtain ⟨oc, od, dt, sl⟩ := z
    rw [e] at h
    cases dt with
    | func u =>
      have k : u = y := Option.some.inj h
      exact ⟨oc, od, sl, by rw [k]⟩
    | _ => cases h
theorem fn_any {Kf : PySem.W.Frag} {d : FnA} {p : Addr} {kw : Bool} (e : fnV Kf p = d.val) (c : fnB Kf p d.qn kw = true) :
    PySem.W.keepIn Kf (.ref p) = true ∧ ∃ (y : FuncData) (kV dc pm : Value) (an : Option Addr) (cd ct : Value), fdA Kf p = some y ∧ y = PySem.W.fnOf d.nm d.qn d.pr d.bd d.sc .none kV dc pm an cd ct ∧ PySem.W.codeIn Kf cd d.qn = true ∧ (kw = true → refB kV = true) := by
  obtain ⟨c1, c2⟩ := Bool.and_eq_true_iff.mp c
  refine ⟨c1, ?_⟩
  unfold fnV FnA.val at e
  cases q : fdA Kf p with
  | none => rw [q] at e; cases e
  | some y =>
    rw [q] at e c2
    obtain ⟨x1, x2, x3, x4, x5, x6, x7, x8, x9, x10, x11, x12, x13, x14, x15⟩ := y
    obtain ⟨c3, c4⟩ := Bool.and_eq_true_iff.mp c2
    obtain ⟨c5, c6⟩ := Bool.and_eq_true_iff.mp c4
    have e2 := Option.some.inj e
    simp only [Prod.mk.injEq] at e2
    obtain ⟨r1, r2, r3, r4, r5, r6, r7, r8⟩ := e2
    subst r1 r2 r3 r4 r5 r6 r7 r8
    have n8 : x8 = Value.none := by
      have c5 : noB x8 = true := c5
      cases x8 <;> first | rfl | cases c5
    subst n8
    refine ⟨_, x9, x10, x11, x12, x13, x14, rfl, rfl, c3, fun hk => ?_⟩
    rw [hk] at c6
    exact c6
theorem ref_of {v : Value} (h : refB v = true) : ∃ z, v = .ref z := by
  cases v with
  | ref z => exact ⟨z, rfl⟩
  | _ => cases h
theorem cd_ref {Kf : PySem.W.Frag} {v : Value} {q : Str} (h : PySem.W.codeIn Kf v q = true) : ∃ z, v = .ref z := He.codeIn_ref h
/-- what a function's two rows give: nothing named; its table named; its code object named -/
theorem fn_g {Kf : PySem.W.Frag} {d : FnA} {p : Addr} (e : fnV Kf p = d.val) (c : fnB Kf p d.qn false = true) :
    ∃ (oc : Value) (od : Option Addr) (sl : Array (Option Value)) (kV dc pm : Value) (an : Option Addr) (cd ct : Value), Kf.lookup p = some ⟨oc, od, .func (PySem.W.fnOf d.nm d.qn d.pr d.bd d.sc .none kV dc pm an cd ct), sl⟩ ∧ PySem.W.codeIn Kf cd d.qn = true ∧ PySem.W.keepIn Kf (.ref p) = true := by
  obtain ⟨kp, y, kV, dc, pm, an, cd, ct, hy, rfl, hc, _⟩ := fn_any e c
  obtain ⟨oc, od, sl, hl⟩ := fdA_some hy
  exact ⟨oc, od, sl, kV, dc, pm, an, cd, ct, hl, hc, kp⟩
theorem fn_k {Kf : PySem.W.Frag} {d : FnA} {p : Addr} (e : fnV Kf p = d.val) (c : fnB Kf p d.qn true = true) :
    ∃ (oc : Value) (od : Option Addr) (sl : Array (Option Value)) (dc pm : Value) (an : Option Addr) (cd ct : Value), Kf.lookup p = some ⟨oc, od, .func (PySem.W.fnOf d.nm d.qn d.pr d.bd d.sc .none (.ref (kwA Kf p)) dc pm an cd ct), sl⟩ ∧ PySem.W.codeIn Kf cd d.qn = true ∧ PySem.W.keepIn Kf (.ref p) = true := by
  obtain ⟨kp, y, kV, dc, pm, an, cd, ct, hy, rfl, hc, hk⟩ := fn_any e c
  obtain ⟨z, rfl⟩ := ref_of (hk rfl)
  obtain ⟨oc, od, sl, hl⟩ := fdA_some hy
  have ez : kwA Kf p = z := by unfold kwA; rw [hy]
  rw [ez]
  exact ⟨oc, od, sl, dc, pm, an, cd, ct, hl, hc, kp⟩
theorem fn_c {Kf : PySem.W.Frag} {d : FnA} {p : Addr} (e : fnV Kf p = d.val) (c : fnB Kf p d.qn false = true) :
    ∃ (oc : Value) (od : Option Addr) (sl : Array (Option Value)) (kV dc pm : Value) (an : Option Addr) (ct : Value), Kf.lookup p = some ⟨oc, od, .func (PySem.W.fnOf d.nm d.qn d.pr d.bd d.sc .none kV dc pm an (.ref (cdA Kf p)) ct), sl⟩ ∧ PySem.W.codeIn Kf (.ref (cdA Kf p)) d.qn = true ∧ PySem.W.keepIn Kf (.ref p) = true := by
  obtain ⟨kp, y, kV, dc, pm, an, cd, ct, hy, rfl, hc, _⟩ := fn_any e c
  obtain ⟨z, rfl⟩ := cd_ref hc
  obtain ⟨oc, od, sl, hl⟩ := fdA_some hy
  have ez : cdA Kf p = z := by unfold cdA; rw [hy]
  rw [ez]
  exact ⟨oc, od, sl, kV, dc, pm, an, ct, hl, hc, kp⟩
theorem fn_kc {Kf : PySem.W.Frag} {d : FnA} {p : Addr} (e : fnV Kf p = d.val) (c : fnB Kf p d.qn true = true) :
    ∃ (oc : Value) (od : Option Addr) (sl : Array (Option Value)) (dc pm : Value) (an : Option Addr) (ct : Value), Kf.lookup p = some ⟨oc, od, .func (PySem.W.fnOf d.nm d.qn d.pr d.bd d.sc .none (.ref (kwA Kf p)) dc pm an (.ref (cdA Kf p)) ct), sl⟩ ∧ PySem.W.codeIn Kf (.ref (cdA Kf p)) d.qn = true ∧ PySem.W.keepIn Kf (.ref p) = true := by
  obtain ⟨kp, y, kV, dc, pm, an, cd, ct, hy, rfl, hc, hk⟩ := fn_any e c
  obtain ⟨z, rfl⟩ := ref_of (hk rfl)
  obtain ⟨u, rfl⟩ := cd_ref hc
  obtain ⟨oc, od, sl, hl⟩ := fdA_some hy
  have ez : kwA Kf p = z := by unfold kwA; rw [hy]
  have eu : cdA Kf p = u := by unfold cdA; rw [hy]
  rw [ez, eu]
  exact ⟨oc, od, sl, dc, pm, an, ct, hl, hc, kp⟩
/-- a class's own maker -/
def ofB (Kf : PySem.W.Frag) (cl p : Addr) (n : Str) : Bool := (match PySem.W.findCls Kf (.ref cl) (.type "type") n with | some (.get (.builtin x) (.ref y) .none (.ref z)) => decide (x = "classmethod.__get__") && (decide (y = p) && decide (z = cl)) | _ => false)
theorem ofB_ok {Kf : PySem.W.Frag} {cl p : Addr} {n : Str} (h : ofB Kf cl p n = true) : PySem.W.findCls Kf (.ref cl) (.type "type") n = some (.get (.builtin "classmethod.__get__") (.ref p) .none (.ref cl)) := by
  unfold ofB at h
  split at h
  · rename_i x y z e
    obtain ⟨h1, h2⟩ := Bool.and_eq_true_iff.mp h
    obtain ⟨h3, h4⟩ := Bool.and_eq_true_iff.mp h2
    rw [e, of_decide_eq_true h1, of_decide_eq_true h3, of_decide_eq_true h4]
  · cases h
/-! ### the hook -/
def tabB (g : Addr → Option Obj) (Kf : PySem.W.Frag) (p : Addr × Addr) : Bool := PySem.W.codeHdIn Kf p.1 p.2 && (match g p.2 with | some z => He.emptyTab z | none => false)
abbrev AlA : Type := List FV × Bool
section
variable (as : List Addr) (fs : List FnA) (ex : PySem.W.Frag → Bool) (tf : PySem.W.Frag → List (Addr × Addr))
def obA (Kf : PySem.W.Frag) (g : Addr → Option Obj) : AlA := (fs.map fun d => fnV Kf (d.pl Kf), ex Kf && (tf Kf).all (tabB g Kf))
def obG (g : Addr → Option Obj) : AlA := obA fs ex tf (He.frT g as) g
structure Tells (h : Heap) (Kf : PySem.W.Frag) : Prop where
  fn : ∀ d ∈ fs, fnV Kf (d.pl Kf) = d.val
  ex : ex Kf = true
  hd : ∀ p ∈ tf Kf, PySem.W.codeHdIn Kf p.1 p.2 = true
  out : ∀ p ∈ tf Kf, Kf.lookup p.2 = none
  em : ∀ p ∈ tf Kf, h.get? p.2 = some (PySem.W.tabObj #[])
variable {as fs ex tf}
theorem map_all {α β : Type} {f g : α → β} : ∀ {l : List α}, l.map f = l.map g → ∀ x ∈ l, f x = g x
  | [], _, _, hx => absurd hx List.not_mem_nil
  | a :: r, h, x, hx => by
    rw [List.map_cons, List.map_cons] at h
    injection h with h1 h2
    rcases List.mem_cons.mp hx with rfl | hx
    · exact h1
    · exact map_all h2 x hx
theorem tells_of {h : Heap} (e : obG as fs ex tf h.get? = (fs.map FnA.val, true)) : Tells fs ex tf h (He.frT h.get? as) := by
  have e1 := congrArg Prod.fst e
  have e2 := congrArg Prod.snd e
  obtain ⟨b1, b2⟩ := Bool.and_eq_true_iff.mp (show (ex (He.frT h.get? as) && (tf (He.frT h.get? as)).all (tabB h.get? (He.frT h.get? as))) = true from e2)
  have key : ∀ p ∈ tf (He.frT h.get? as), PySem.W.codeHdIn (He.frT h.get? as) p.1 p.2 = true ∧ ∃ z, h.get? p.2 = some z ∧ He.emptyTab z = true := fun p hp => by
    obtain ⟨b3, b4⟩ := Bool.and_eq_true_iff.mp (List.all_eq_true.mp b2 p hp)
    refine ⟨b3, ?_⟩
    cases q : h.get? p.2 with
    | none => rw [q] at b4; cases b4
    | some z => rw [q] at b4; exact ⟨z, rfl, b4⟩
  refine ⟨map_all e1, b1, fun p hp => (key p hp).1, fun p hp => ?_, fun p hp => ?_⟩
  · obtain ⟨_, z, hz, k⟩ := key p hp
    exact He.frT_none hz k
  · obtain ⟨_, z, hz, k⟩ := key p hp
    rw [hz, He.emptyTab_eq k]
variable (as fs ex tf)
def hook : PySem.W.Hook where
  α := AlA
  obs := fun s => obG as fs ex tf s.heap.get?
  val := fun _ => (fs.map FnA.val, true)
  says := fun _ h => ∃ Kf : PySem.W.Frag, Kf.In h ∧ Tells fs ex tf h Kf
  of := fun _ _ e => ⟨_, He.frT_in, tells_of e⟩
  keeps := fun _ _ _ ⟨Kf, i, t⟩ k => ⟨Kf, PySem.W.Frag.In.keeps i k, ⟨t.fn, t.ex, t.hd, t.out, fun p hp => k _ _ (t.em p hp)⟩⟩
def obT (s : PySem.W.SharedT) : AlA := obG as fs ex tf (HandSHeadRun.getT s)
theorem obT_eq (s : PySem.W.SharedT) : obT as fs ex tf s = (hook as fs ex tf).obs s.abs := by
  have e : HandSHeadRun.getT s = s.abs.heap.get? := funext (HandSHeadRun.getT_eq s)
  show obG as fs ex tf (HandSHeadRun.getT s) = obG as fs ex tf s.abs.heap.get?
  rw [e]
end
theorem at_ {α : Type} {l : List α} {d : α} (i : Nat) (h : l[i]? = some d) : d ∈ l := List.mem_of_getElem? h
theorem band {a b : Bool} (h : (a && b) = true) : a = true ∧ b = true := Bool.and_eq_true_iff.mp h
end Sh

set_option Elab.async false
set_option linter.all false
set_option maxRecDepth 100000
set_option maxHeartbeats 2000000
namespace Tw
open PySem PySem.Spec PyProof.Rows L2
def topS (i : Nat) : Stmt := PySem.Challenge.pw_heaprows_k15_whole_bounds_long.main.body.getD i (.Pass ⟨0, 0, 0, 0⟩)
abbrev s_is_integer : Stmt := topS 12
theorem sc_is_integer : FnScope ["thing"] ["thing"] (defScope s_is_integer) := ⟨rfl, rfl, rfl, by decide +kernel, rfl, by decide +kernel, by decide +kernel⟩
abbrev s_is_integer_from : Stmt := topS 13
theorem sc_is_integer_from : FnScope ["thing", "least", "greatest"] ["thing", "least", "greatest"] (defScope s_is_integer_from) := ⟨rfl, rfl, rfl, by decide +kernel, rfl, by decide +kernel, by decide +kernel⟩
abbrev s_is_key : Stmt := topS 14
theorem sc_is_key : FnScope ["thing"] ["thing"] (defScope s_is_key) := ⟨rfl, rfl, rfl, by decide +kernel, rfl, by decide +kernel, by decide +kernel⟩
abbrev s_check_arms : Stmt := topS 15
theorem sc_check_arms : FnScope ["arms"] ["arms"] (defScope s_check_arms) := ⟨rfl, rfl, rfl, by decide +kernel, rfl, by decide +kernel, by decide +kernel⟩
abbrev s_check_many : Stmt := topS 16
theorem sc_check_many : FnScope ["many"] ["many"] (defScope s_check_many) := ⟨rfl, rfl, rfl, by decide +kernel, rfl, by decide +kernel, by decide +kernel⟩
abbrev s_check_place : Stmt := topS 17
theorem sc_check_place : FnScope ["place", "many"] ["place", "many"] (defScope s_check_place) := ⟨rfl, rfl, rfl, by decide +kernel, rfl, by decide +kernel, by decide +kernel⟩
abbrev s_row_of : Stmt := topS 18
theorem sc_row_of : FnScope ["row", "index", "key"] ["row"] (defScope s_row_of) := ⟨rfl, rfl, rfl, by decide +kernel, rfl, by decide +kernel, by decide +kernel⟩
abbrev s_is_full : Stmt := topS 19
theorem sc_is_full : FnScope ["thing", "many", "item"] ["thing", "many"] (defScope s_is_full) := ⟨rfl, rfl, rfl, by decide +kernel, rfl, by decide +kernel, by decide +kernel⟩
abbrev s_t___init__ : Stmt := inClass (topS 21) 0
theorem sc_t___init__ : FnScope ["self", "many", "arms"] ["self", "many", "arms"] (defScope s_t___init__) := ⟨rfl, rfl, rfl, by decide +kernel, rfl, by decide +kernel, by decide +kernel⟩
abbrev s_t_of : Stmt := inClass (topS 21) 1
theorem sc_t_of : FnScope ["cls", "row", "arms"] ["cls", "row", "arms"] (defScope s_t_of) := ⟨rfl, rfl, rfl, by decide +kernel, rfl, by decide +kernel, by decide +kernel⟩
abbrev s_t___len__ : Stmt := inClass (topS 21) 2
theorem sc_t___len__ : FnScope ["self"] ["self"] (defScope s_t___len__) := ⟨rfl, rfl, rfl, by decide +kernel, rfl, by decide +kernel, by decide +kernel⟩
abbrev s_t___contains__ : Stmt := inClass (topS 21) 3
theorem sc_t___contains__ : FnScope ["self", "thing"] ["self", "thing"] (defScope s_t___contains__) := ⟨rfl, rfl, rfl, by decide +kernel, rfl, by decide +kernel, by decide +kernel⟩
abbrev s_t___iter__ : Stmt := inClass (topS 21) 4
theorem sc_t___iter__ : FnScope ["self"] ["self"] (defScope s_t___iter__) := ⟨rfl, rfl, rfl, by decide +kernel, rfl, by decide +kernel, by decide +kernel⟩
abbrev s_t___getitem__ : Stmt := inClass (topS 21) 5
theorem sc_t___getitem__ : FnScope ["self", "place", "first"] ["self", "place"] (defScope s_t___getitem__) := ⟨rfl, rfl, rfl, by decide +kernel, rfl, by decide +kernel, by decide +kernel⟩
abbrev s_t_parent : Stmt := inClass (topS 21) 7
theorem sc_t_parent : FnScope ["self", "place"] ["self", "place"] (defScope s_t_parent) := ⟨rfl, rfl, rfl, by decide +kernel, rfl, by decide +kernel, by decide +kernel⟩
abbrev s_is_heap : Stmt := topS 23
theorem sc_is_heap : FnScope ["row", "arms"] ["row", "arms"] (defScope s_is_heap) := ⟨rfl, rfl, rfl, by decide +kernel, rfl, by decide +kernel, by decide +kernel⟩
abbrev s_faults : Stmt := topS 24
theorem sc_faults : FnScope ["row", "arms", "tree", "place"] ["row", "arms"] (defScope s_faults) := ⟨rfl, rfl, rfl, by decide +kernel, rfl, by decide +kernel, by decide +kernel⟩
abbrev s_is_full_heap : Stmt := topS 25
theorem sc_is_full_heap : FnScope ["row", "many", "arms"] ["row", "many", "arms"] (defScope s_is_full_heap) := ⟨rfl, rfl, rfl, by decide +kernel, rfl, by decide +kernel, by decide +kernel⟩
abbrev s_f___init__ : Stmt := inClass (topS 27) 0
theorem sc_f___init__ : FnScope ["self", "row"] ["self", "row"] (defScope s_f___init__) := ⟨rfl, rfl, rfl, by decide +kernel, rfl, by decide +kernel, by decide +kernel⟩
abbrev s_f_shows : Stmt := inClass (topS 27) 2
theorem sc_f_shows : FnScope ["self", "bounds", "arms"] ["self", "bounds", "arms"] (defScope s_f_shows) := ⟨rfl, rfl, rfl, by decide +kernel, rfl, by decide +kernel, by decide +kernel⟩
abbrev s_c___init__ : Stmt := inClass (topS 28) 0
theorem sc_c___init__ : FnScope ["self", "first", "last", "places"] ["self", "first", "last", "places"] (defScope s_c___init__) := ⟨rfl, rfl, rfl, by decide +kernel, rfl, by decide +kernel, by decide +kernel⟩
abbrev s_c_shows : Stmt := inClass (topS 28) 2
theorem sc_c_shows : FnScope ["self", "bounds", "arms", "inside", "place"] ["self", "bounds", "arms"] (defScope s_c_shows) := ⟨rfl, rfl, rfl, by decide +kernel, rfl, by decide +kernel, by decide +kernel⟩
abbrev s_fit : Stmt := topS 29
theorem sc_fit : FnScope ["bounds", "arms", "told", "first", "last", "places", "least", "_", "greatest"] ["bounds", "arms"] (defScope s_fit) := ⟨rfl, rfl, rfl, by decide +kernel, rfl, by decide +kernel, by decide +kernel⟩
abbrev s_can_fit : Stmt := topS 30
theorem sc_can_fit : FnScope ["bounds", "arms"] ["bounds", "arms"] (defScope s_can_fit) := ⟨rfl, rfl, rfl, by decide +kernel, rfl, by decide +kernel, by decide +kernel⟩
abbrev s_told_bounds : Stmt := topS 31
theorem sc_told_bounds : FnScope ["bounds", "arms", "tree", "least", "greatest", "place", "child", "pair"] ["bounds", "arms"] (defScope s_told_bounds) := ⟨rfl, rfl, rfl, by decide +kernel, rfl, by decide +kernel, by decide +kernel⟩
abbrev s_ranks_within : Stmt := topS 32
theorem sc_ranks_within : FnScope ["bounds", "arms", "place", "pair", "rank"] ["bounds", "arms"] (defScope s_ranks_within) := ⟨rfl, rfl, rfl, by decide +kernel, rfl, by decide +kernel, by decide +kernel⟩
abbrev s_check_bounds : Stmt := topS 33
theorem sc_check_bounds : FnScope ["bounds", "arms", "place", "pair"] ["bounds", "arms"] (defScope s_check_bounds) := ⟨rfl, rfl, rfl, by decide +kernel, rfl, by decide +kernel, by decide +kernel⟩
abbrev s_is_pair_of_ranks : Stmt := topS 34
theorem sc_is_pair_of_ranks : FnScope ["thing", "many", "least", "greatest"] ["thing", "many"] (defScope s_is_pair_of_ranks) := ⟨rfl, rfl, rfl, by decide +kernel, rfl, by decide +kernel, by decide +kernel⟩
abbrev s_is_within : Stmt := topS 35
theorem sc_is_within : FnScope ["row", "bounds", "key", "pair"] ["row", "bounds"] (defScope s_is_within) := ⟨rfl, rfl, rfl, by decide +kernel, rfl, by decide +kernel, by decide +kernel⟩
abbrev s_places_inside : Stmt := topS 36
theorem sc_places_inside : FnScope ["told", "first", "last", "place", "least", "greatest"] ["told", "first", "last"] (defScope s_places_inside) := ⟨rfl, rfl, rfl, by decide +kernel, rfl, by decide +kernel, by decide +kernel⟩
abbrev s_is_crowd : Stmt := topS 37
theorem sc_is_crowd : FnScope ["places", "first", "last"] ["places", "first", "last"] (defScope s_is_crowd) := ⟨rfl, rfl, rfl, by decide +kernel, rfl, by decide +kernel, by decide +kernel⟩
abbrev s_most_urgent_first : Stmt := topS 38
theorem sc_most_urgent_first : FnScope ["told", "row", "rank", "waiting", "place", "least", "_"] ["told"] (defScope s_most_urgent_first) := ⟨rfl, rfl, rfl, by decide +kernel, rfl, by decide +kernel, by decide +kernel⟩
abbrev s_can_have : Stmt := topS 39
theorem sc_can_have : FnScope ["bounds", "place", "rank", "arms", "narrow"] ["bounds", "place", "rank", "arms"] (defScope s_can_have) := ⟨rfl, rfl, rfl, by decide +kernel, rfl, by decide +kernel, by decide +kernel⟩
abbrev s__law_number : Stmt := topS 41
theorem sc__law_number : FnScope ["script", "index", "cells", "cell", "low", "high", "total", "blend"] ["script", "index"] (defScope s__law_number) := ⟨rfl, rfl, rfl, by decide +kernel, rfl, by decide +kernel, by decide +kernel⟩
abbrev s__law_take : Stmt := topS 42
theorem sc__law_take : FnScope ["draw", "many"] ["draw", "many"] (defScope s__law_take) := ⟨rfl, rfl, rfl, by decide +kernel, rfl, by decide +kernel, by decide +kernel⟩
abbrev s__law_pick : Stmt := topS 43
theorem sc__law_pick : FnScope ["draw", "things"] ["draw", "things"] (defScope s__law_pick) := ⟨rfl, rfl, rfl, by decide +kernel, rfl, by decide +kernel, by decide +kernel⟩
abbrev s__law_parent : Stmt := topS 44
theorem sc__law_parent : FnScope ["wide", "place"] ["wide", "place"] (defScope s__law_parent) := ⟨rfl, rfl, rfl, by decide +kernel, rfl, by decide +kernel, by decide +kernel⟩
abbrev s__law_way : Stmt := topS 45
theorem sc__law_way : FnScope ["wide", "place", "way", "lap"] ["wide", "place"] (defScope s__law_way) := ⟨rfl, rfl, rfl, by decide +kernel, rfl, by decide +kernel, by decide +kernel⟩
abbrev s__law_subtree : Stmt := topS 46
theorem sc__law_subtree : FnScope ["wide", "many", "place", "other"] ["wide", "many", "place"] (defScope s__law_subtree) := ⟨rfl, rfl, rfl, by decide +kernel, rfl, by decide +kernel, by decide +kernel⟩
abbrev s__law_arms : Stmt := topS 47
theorem sc__law_arms : FnScope ["draw"] ["draw"] (defScope s__law_arms) := ⟨rfl, rfl, rfl, by decide +kernel, rfl, by decide +kernel, by decide +kernel⟩
abbrev s__law_order : Stmt := topS 48
theorem sc__law_order : FnScope ["draw", "many", "left", "order", "turn"] ["draw", "many"] (defScope s__law_order) := ⟨rfl, rfl, rfl, by decide +kernel, rfl, by decide +kernel, by decide +kernel⟩
abbrev s__law_is_heap : Stmt := topS 49
theorem sc__law_is_heap : FnScope ["row", "wide", "place", "above"] ["row", "wide"] (defScope s__law_is_heap) := ⟨rfl, rfl, rfl, by decide +kernel, rfl, by decide +kernel, by decide +kernel⟩
abbrev s__law_heap : Stmt := topS 50
theorem sc__law_heap : FnScope ["keys", "wide", "row", "key", "place", "lap", "above"] ["keys", "wide"] (defScope s__law_heap) := ⟨rfl, rfl, rfl, by decide +kernel, rfl, by decide +kernel, by decide +kernel⟩
abbrev s__law_pairs : Stmt := topS 51
theorem sc__law_pairs : FnScope ["draw", "many", "bounds", "place", "first", "last", "wide"] ["draw", "many"] (defScope s__law_pairs) := ⟨rfl, rfl, rfl, by decide +kernel, rfl, by decide +kernel, by decide +kernel⟩
abbrev s__law_near_pairs : Stmt := topS 52
theorem sc__law_near_pairs : FnScope ["draw", "wide", "many", "row", "bounds", "place", "low", "high"] ["draw", "wide", "many"] (defScope s__law_near_pairs) := ⟨rfl, rfl, rfl, by decide +kernel, rfl, by decide +kernel, by decide +kernel⟩
abbrev s__law_must : Stmt := topS 53
theorem sc__law_must : FnScope ["bounds", "wide", "many", "found", "place", "way", "least", "below", "steps", "at", "above", "other"] ["bounds", "wide"] (defScope s__law_must) := ⟨rfl, rfl, rfl, by decide +kernel, rfl, by decide +kernel, by decide +kernel⟩
abbrev s__law_fits : Stmt := topS 54
theorem sc__law_fits : FnScope ["row", "bounds", "place", "pair"] ["row", "bounds"] (defScope s__law_fits) := ⟨rfl, rfl, rfl, by decide +kernel, rfl, by decide +kernel, by decide +kernel⟩
abbrev s_law : Stmt := topS 55
theorem sc_law : FnScope ["script", "draw", "turn", "wide", "many", "bounds", "found", "must", "spot", "loose", "fixed", "some", "pair"] ["script"] (defScope s_law) := ⟨rfl, rfl, rfl, by decide +kernel, rfl, by decide +kernel, by decide +kernel⟩
/-- where the text's defs stand -/
structure Ad where
  f_is_integer : Addr
  d_is_integer : FuncData
  f_is_integer_from : Addr
  d_is_integer_from : FuncData
  f_is_key : Addr
  d_is_key : FuncData
  f_check_arms : Addr
  d_check_arms : FuncData
  f_check_many : Addr
  d_check_many : FuncData
  f_check_place : Addr
  d_check_place : FuncData
  f_row_of : Addr
  d_row_of : FuncData
  f_is_full : Addr
  d_is_full : FuncData
  f_t___init__ : Addr
  d_t___init__ : FuncData
  f_t_of : Addr
  d_t_of : FuncData
  f_t___len__ : Addr
  d_t___len__ : FuncData
  f_t___contains__ : Addr
  d_t___contains__ : FuncData
  f_t___iter__ : Addr
  d_t___iter__ : FuncData
  f_t___getitem__ : Addr
  d_t___getitem__ : FuncData
  f_t_parent : Addr
  d_t_parent : FuncData
  f_is_heap : Addr
  d_is_heap : FuncData
  f_faults : Addr
  d_faults : FuncData
  f_is_full_heap : Addr
  d_is_full_heap : FuncData
  f_f___init__ : Addr
  d_f___init__ : FuncData
  f_f_shows : Addr
  d_f_shows : FuncData
  f_c___init__ : Addr
  d_c___init__ : FuncData
  f_c_shows : Addr
  d_c_shows : FuncData
  f_fit : Addr
  d_fit : FuncData
  f_can_fit : Addr
  d_can_fit : FuncData
  f_told_bounds : Addr
  d_told_bounds : FuncData
  f_ranks_within : Addr
  d_ranks_within : FuncData
  f_check_bounds : Addr
  d_check_bounds : FuncData
  f_is_pair_of_ranks : Addr
  d_is_pair_of_ranks : FuncData
  f_is_within : Addr
  d_is_within : FuncData
  f_places_inside : Addr
  d_places_inside : FuncData
  f_is_crowd : Addr
  d_is_crowd : FuncData
  f_most_urgent_first : Addr
  d_most_urgent_first : FuncData
  f_can_have : Addr
  d_can_have : FuncData
  f__law_number : Addr
  d__law_number : FuncData
  f__law_take : Addr
  d__law_take : FuncData
  f__law_pick : Addr
  d__law_pick : FuncData
  f__law_parent : Addr
  d__law_parent : FuncData
  f__law_way : Addr
  d__law_way : FuncData
  f__law_subtree : Addr
  d__law_subtree : FuncData
  f__law_arms : Addr
  d__law_arms : FuncData
  f__law_order : Addr
  d__law_order : FuncData
  f__law_is_heap : Addr
  d__law_is_heap : FuncData
  f__law_heap : Addr
  d__law_heap : FuncData
  f__law_pairs : Addr
  d__law_pairs : FuncData
  f__law_near_pairs : Addr
  d__law_near_pairs : FuncData
  f__law_must : Addr
  d__law_must : FuncData
  f__law_fits : Addr
  d__law_fits : FuncData
  f_law : Addr
  d_law : FuncData
  C : Addr
  po : Addr
  CF : Addr
  CC : Addr
  c_most_urgent_first : Addr
  P_most_urgent_first : Addr
/-- what the top has written -/
structure Tx (K : PySem.W.Frag) (mg : Str → Option Value) (A : Ad) : Prop where
  F_is_integer : Fun K "is_integer" "is_integer" s_is_integer A.f_is_integer A.d_is_integer
  m_is_integer : mg "is_integer" = some (.ref A.f_is_integer)
  F_is_integer_from : Fun K "is_integer_from" "is_integer_from" s_is_integer_from A.f_is_integer_from A.d_is_integer_from
  m_is_integer_from : mg "is_integer_from" = some (.ref A.f_is_integer_from)
  F_is_key : Fun K "is_key" "is_key" s_is_key A.f_is_key A.d_is_key
  m_is_key : mg "is_key" = some (.ref A.f_is_key)
  F_check_arms : Fun K "check_arms" "check_arms" s_check_arms A.f_check_arms A.d_check_arms
  m_check_arms : mg "check_arms" = some (.ref A.f_check_arms)
  F_check_many : Fun K "check_many" "check_many" s_check_many A.f_check_many A.d_check_many
  m_check_many : mg "check_many" = some (.ref A.f_check_many)
  F_check_place : Fun K "check_place" "check_place" s_check_place A.f_check_place A.d_check_place
  m_check_place : mg "check_place" = some (.ref A.f_check_place)
  F_row_of : Fun K "row_of" "row_of" s_row_of A.f_row_of A.d_row_of
  m_row_of : mg "row_of" = some (.ref A.f_row_of)
  F_is_full : Fun K "is_full" "is_full" s_is_full A.f_is_full A.d_is_full
  m_is_full : mg "is_full" = some (.ref A.f_is_full)
  F_t___init__ : FunD K "__init__" "Tree.__init__" (defArgs s_t___init__) (defBody s_t___init__) (defScope s_t___init__) [] [("arms", V.int 2)] A.f_t___init__ A.d_t___init__
  F_t_of : FunD K "of" "Tree.of" (defArgs s_t_of) (defBody s_t_of) (defScope s_t_of) [] [("arms", V.int 2)] A.f_t_of A.d_t_of
  F_t___len__ : Fun K "__len__" "Tree.__len__" s_t___len__ A.f_t___len__ A.d_t___len__
  D_t___len__ : Dn K A.C "__len__" A.f_t___len__
  F_t___contains__ : Fun K "__contains__" "Tree.__contains__" s_t___contains__ A.f_t___contains__ A.d_t___contains__
  D_t___contains__ : Dn K A.C "__contains__" A.f_t___contains__
  F_t___iter__ : Fun K "__iter__" "Tree.__iter__" s_t___iter__ A.f_t___iter__ A.d_t___iter__
  D_t___iter__ : Dn K A.C "__iter__" A.f_t___iter__
  F_t___getitem__ : Fun K "__getitem__" "Tree.__getitem__" s_t___getitem__ A.f_t___getitem__ A.d_t___getitem__
  D_t___getitem__ : Dn K A.C "__getitem__" A.f_t___getitem__
  F_t_parent : Fun K "parent" "Tree.parent" s_t_parent A.f_t_parent A.d_t_parent
  M_t_parent : Meth K A.C "parent" A.f_t_parent
  F_is_heap : FunD K "is_heap" "is_heap" (defArgs s_is_heap) (defBody s_is_heap) (defScope s_is_heap) [] [("arms", V.int 2)] A.f_is_heap A.d_is_heap
  m_is_heap : mg "is_heap" = some (.ref A.f_is_heap)
  F_faults : FunD K "faults" "faults" (defArgs s_faults) (defBody s_faults) (defScope s_faults) [] [("arms", V.int 2)] A.f_faults A.d_faults
  m_faults : mg "faults" = some (.ref A.f_faults)
  F_is_full_heap : Fun K "is_full_heap" "is_full_heap" s_is_full_heap A.f_is_full_heap A.d_is_full_heap
  m_is_full_heap : mg "is_full_heap" = some (.ref A.f_is_full_heap)
  F_f___init__ : Fun K "__init__" "Fitted.__init__" s_f___init__ A.f_f___init__ A.d_f___init__
  F_f_shows : FunD K "shows" "Fitted.shows" (defArgs s_f_shows) (defBody s_f_shows) (defScope s_f_shows) [] [("arms", V.int 2)] A.f_f_shows A.d_f_shows
  M_f_shows : Meth K A.CF "shows" A.f_f_shows
  F_c___init__ : Fun K "__init__" "Crowded.__init__" s_c___init__ A.f_c___init__ A.d_c___init__
  F_c_shows : FunD K "shows" "Crowded.shows" (defArgs s_c_shows) (defBody s_c_shows) (defScope s_c_shows) [] [("arms", V.int 2)] A.f_c_shows A.d_c_shows
  M_c_shows : Meth K A.CC "shows" A.f_c_shows
  F_fit : FunD K "fit" "fit" (defArgs s_fit) (defBody s_fit) (defScope s_fit) [] [("arms", V.int 2)] A.f_fit A.d_fit
  m_fit : mg "fit" = some (.ref A.f_fit)
  F_can_fit : FunD K "can_fit" "can_fit" (defArgs s_can_fit) (defBody s_can_fit) (defScope s_can_fit) [] [("arms", V.int 2)] A.f_can_fit A.d_can_fit
  m_can_fit : mg "can_fit" = some (.ref A.f_can_fit)
  F_told_bounds : FunD K "told_bounds" "told_bounds" (defArgs s_told_bounds) (defBody s_told_bounds) (defScope s_told_bounds) [] [("arms", V.int 2)] A.f_told_bounds A.d_told_bounds
  m_told_bounds : mg "told_bounds" = some (.ref A.f_told_bounds)
  F_ranks_within : FunD K "ranks_within" "ranks_within" (defArgs s_ranks_within) (defBody s_ranks_within) (defScope s_ranks_within) [] [("arms", V.int 2)] A.f_ranks_within A.d_ranks_within
  m_ranks_within : mg "ranks_within" = some (.ref A.f_ranks_within)
  F_check_bounds : Fun K "check_bounds" "check_bounds" s_check_bounds A.f_check_bounds A.d_check_bounds
  m_check_bounds : mg "check_bounds" = some (.ref A.f_check_bounds)
  F_is_pair_of_ranks : Fun K "is_pair_of_ranks" "is_pair_of_ranks" s_is_pair_of_ranks A.f_is_pair_of_ranks A.d_is_pair_of_ranks
  m_is_pair_of_ranks : mg "is_pair_of_ranks" = some (.ref A.f_is_pair_of_ranks)
  F_is_within : Fun K "is_within" "is_within" s_is_within A.f_is_within A.d_is_within
  m_is_within : mg "is_within" = some (.ref A.f_is_within)
  F_places_inside : Fun K "places_inside" "places_inside" s_places_inside A.f_places_inside A.d_places_inside
  m_places_inside : mg "places_inside" = some (.ref A.f_places_inside)
  F_is_crowd : Fun K "is_crowd" "is_crowd" s_is_crowd A.f_is_crowd A.d_is_crowd
  m_is_crowd : mg "is_crowd" = some (.ref A.f_is_crowd)
  L_most_urgent_first : ∃ (oc : Value) (od : Option Addr) (kV doc pm : Value) (an : Option Addr) (ct : Value) (osl : Array (Option Value)), A.d_most_urgent_first = PySem.W.fnOf "most_urgent_first" "most_urgent_first" (defArgs s_most_urgent_first) (defBody s_most_urgent_first) (defScope s_most_urgent_first) .none kV doc pm an (.ref A.c_most_urgent_first) ct ∧ K.lookup A.f_most_urgent_first = some ⟨oc, od, .func A.d_most_urgent_first, osl⟩ ∧ PySem.W.codeIn K (.ref A.c_most_urgent_first) "most_urgent_first" = true
  F_most_urgent_first : Fun K "most_urgent_first" "most_urgent_first" s_most_urgent_first A.f_most_urgent_first A.d_most_urgent_first
  m_most_urgent_first : mg "most_urgent_first" = some (.ref A.f_most_urgent_first)
  F_can_have : Fun K "can_have" "can_have" s_can_have A.f_can_have A.d_can_have
  m_can_have : mg "can_have" = some (.ref A.f_can_have)
  F__law_number : Fun K "_law_number" "_law_number" s__law_number A.f__law_number A.d__law_number
  m__law_number : mg "_law_number" = some (.ref A.f__law_number)
  F__law_take : Fun K "_law_take" "_law_take" s__law_take A.f__law_take A.d__law_take
  m__law_take : mg "_law_take" = some (.ref A.f__law_take)
  F__law_pick : Fun K "_law_pick" "_law_pick" s__law_pick A.f__law_pick A.d__law_pick
  m__law_pick : mg "_law_pick" = some (.ref A.f__law_pick)
  F__law_parent : Fun K "_law_parent" "_law_parent" s__law_parent A.f__law_parent A.d__law_parent
  m__law_parent : mg "_law_parent" = some (.ref A.f__law_parent)
  F__law_way : Fun K "_law_way" "_law_way" s__law_way A.f__law_way A.d__law_way
  m__law_way : mg "_law_way" = some (.ref A.f__law_way)
  F__law_subtree : Fun K "_law_subtree" "_law_subtree" s__law_subtree A.f__law_subtree A.d__law_subtree
  m__law_subtree : mg "_law_subtree" = some (.ref A.f__law_subtree)
  F__law_arms : Fun K "_law_arms" "_law_arms" s__law_arms A.f__law_arms A.d__law_arms
  m__law_arms : mg "_law_arms" = some (.ref A.f__law_arms)
  F__law_order : Fun K "_law_order" "_law_order" s__law_order A.f__law_order A.d__law_order
  m__law_order : mg "_law_order" = some (.ref A.f__law_order)
  F__law_is_heap : Fun K "_law_is_heap" "_law_is_heap" s__law_is_heap A.f__law_is_heap A.d__law_is_heap
  m__law_is_heap : mg "_law_is_heap" = some (.ref A.f__law_is_heap)
  F__law_heap : Fun K "_law_heap" "_law_heap" s__law_heap A.f__law_heap A.d__law_heap
  m__law_heap : mg "_law_heap" = some (.ref A.f__law_heap)
  F__law_pairs : Fun K "_law_pairs" "_law_pairs" s__law_pairs A.f__law_pairs A.d__law_pairs
  m__law_pairs : mg "_law_pairs" = some (.ref A.f__law_pairs)
  F__law_near_pairs : Fun K "_law_near_pairs" "_law_near_pairs" s__law_near_pairs A.f__law_near_pairs A.d__law_near_pairs
  m__law_near_pairs : mg "_law_near_pairs" = some (.ref A.f__law_near_pairs)
  F__law_must : Fun K "_law_must" "_law_must" s__law_must A.f__law_must A.d__law_must
  m__law_must : mg "_law_must" = some (.ref A.f__law_must)
  F__law_fits : Fun K "_law_fits" "_law_fits" s__law_fits A.f__law_fits A.d__law_fits
  m__law_fits : mg "_law_fits" = some (.ref A.f__law_fits)
  F_law : Fun K "law" "law" s_law A.f_law A.d_law
  m_law : mg "law" = some (.ref A.f_law)
  c_GREATEST_KEY : mg "GREATEST_KEY" = some (.int 1000000000 0) ∨ ∃ t, mg "GREATEST_KEY" = some (.int 1000000000 t)
  c_MOST_ARMS : mg "MOST_ARMS" = some (.int 4 0) ∨ ∃ t, mg "MOST_ARMS" = some (.int 4 t)
  c_MOST_PLACES : mg "MOST_PLACES" = some (.int 12 0) ∨ ∃ t, mg "MOST_PLACES" = some (.int 12 t)
  g_all : mg "all" = none
  g_any : mg "any" = none
  g_bool : mg "bool" = none
  g_enumerate : mg "enumerate" = none
  g_int : mg "int" = none
  g_isinstance : mg "isinstance" = none
  g_iter : mg "iter" = none
  g_len : mg "len" = none
  g_list : mg "list" = none
  g_max : mg "max" = none
  g_min : mg "min" = none
  g_range : mg "range" = none
  g_reversed : mg "reversed" = none
  g_set : mg "set" = none
  g_sorted : mg "sorted" = none
  g_sum : mg "sum" = none
  g_tuple : mg "tuple" = none
  g_zip : mg "zip" = none
  cT : Cls K A.C
  nMany : NoAttr K A.C "many"
  nArms : NoAttr K A.C "arms"
  nPl : NoAttr K A.C "_places"
  mC : mg "Tree" = some (.ref A.C)
  mkC : Mk K A.C A.f_t___init__
  cr : ClX.CRead K A.C (.type "type")
  cof : ClX.CMet K A.C (.type "type") "of" A.po A.f_t_of
  cTF : Cls K A.CF
  fRow : NoAttr K A.CF "row"
  mCF : mg "Fitted" = some (.ref A.CF)
  mkCF : Mk K A.CF A.f_f___init__
  kaF : PySem.W.findIn K (.ref A.CF) "__class__" = some (some (.builtin "object.__class__"))
  knF : PySem.W.specialIn K (.builtin "object.__class__") "__get__" = some (some (.builtin "getset_descriptor.__get__"))
  ktkF : PySem.W.takesIn K (.builtin "object.__class__") = some true
  kmF : PySem.W.mroIn K A.CF (.type "object") = some true
  kiF_CC : PySem.W.kitOne K (.ref A.CC) (.ref A.CF) = some false
  cTC : Cls K A.CC
  cFirst : NoAttr K A.CC "first"
  cLast : NoAttr K A.CC "last"
  cPlaces : NoAttr K A.CC "places"
  mCC : mg "Crowded" = some (.ref A.CC)
  mkCC : Mk K A.CC A.f_c___init__
  kaC : PySem.W.findIn K (.ref A.CC) "__class__" = some (some (.builtin "object.__class__"))
  knC : PySem.W.specialIn K (.builtin "object.__class__") "__get__" = some (some (.builtin "getset_descriptor.__get__"))
  ktkC : PySem.W.takesIn K (.builtin "object.__class__") = some true
  kmC : PySem.W.mroIn K A.CC (.type "object") = some true
  kiC_CF : PySem.W.kitOne K (.ref A.CF) (.ref A.CC) = some false
def TT (A : Ad) : List (Addr × Str) := [(A.P_most_urgent_first, ("most_urgent_first" : Str) ++ ".<locals>." ++ "<lambda>")]

end Tw

set_option Elab.async false
set_option linter.all false
set_option maxRecDepth 100000
set_option maxHeartbeats 2000000
namespace Tw
open PySem PySem.Spec PyProof.Rows L2
section
variable {P : Program} {w : World} {K : PySem.W.Frag} {mg : Str → Option Value} {base : Heap} {A : Ad}
open LamX (ExtN Tabs TabS)
abbrev Pr := Int × Str
abbrev d0 : Pr := (0, ⟨#[]⟩)
def upF : Nat → Nat → Nat → List Nat
  | 0, _, p => [p]
  | k + 1, w, p => if p = 0 then [0] else p :: upF k w ((p - 1) / w)
def upL (w p : Nat) : List Nat := upF 13 w p
def wayL (w p : Nat) : List Nat := (upL w p).reverse
theorem up_eq : ∀ w, w < 5 → ∀ p, p < 13 → 1 ≤ w → upL w p = if p = 0 then [0] else p :: upL w ((p - 1) / w) := by decide +kernel
theorem way_rec (w p : Nat) (hw : 1 ≤ w ∧ w ≤ 4) (hp : p ≤ 12) (h0 : 0 < p) : wayL w p = wayL w ((p - 1) / w) ++ [p] := by
  unfold wayL
  have e := up_eq w (by omega) p (by omega) hw.1
  rw [if_neg (by omega)] at e
  rw [e, List.reverse_cons]
theorem self_sub : ∀ w, w < 5 → ∀ i, i < 13 → 1 ≤ w → i ∈ wayL w i := by decide +kernel
theorem par_way (w p : Nat) (hw : 1 ≤ w ∧ w ≤ 4) (hp : p ≤ 12) (h0 : 0 < p) : (p - 1) / w ∈ wayL w p := by
  rw [way_rec w p hw hp h0]
  have h := self_sub w (by omega) ((p - 1) / w) (by have := Nat.div_le_self (p - 1) w; omega) hw.1
  exact List.mem_append_left _ h
/-- the places of a subtree -/
def subL (n w i : Nat) : List Nat := (List.range n).filter fun j => decide (i ∈ wayL w j)
theorem sub_mem {n w p x : Nat} : x ∈ subL n w p ↔ x < n ∧ p ∈ wayL w x := by
  unfold subL
  rw [List.mem_filter, List.mem_range, decide_eq_true_eq]
theorem up_le : ∀ w, w < 5 → ∀ p, p < 13 → 1 ≤ w → ∀ q ∈ wayL w p, q ≤ p := by decide +kernel
theorem up_self : ∀ w, w < 5 → ∀ p, p < 13 → 1 ≤ w → p ∈ wayL w p := by decide +kernel
end
end Tw

set_option Elab.async false
set_option linter.all false
set_option maxRecDepth 100000
set_option maxHeartbeats 2000000
namespace Tw
open PySem PySem.Spec PyProof.Rows L2
section
variable {P : Program} {w : World} {K : PySem.W.Frag} {mg : Str → Option Value} {base : Heap} {A : Ad}
open LamX (ExtN Tabs TabS)
/-! mathematics of bounds: wayL subL way_rec sub_mem up_le up_self par_way -/
abbrev bA (bs : List (Int × Int)) (p : Nat) : Int := (bs.getD p (0, 0)).1
abbrev bB (bs : List (Int × Int)) (p : Nat) : Int := (bs.getD p (0, 0)).2
/-- pairs of ranks -/
def BOk (bs : List (Int × Int)) : Prop := ∀ p, p < bs.length → 0 ≤ bA bs p ∧ bA bs p ≤ bB bs p ∧ bB bs p ≤ (bs.length : Int) - 1
/-- bounds as they must be -/
structure Told (w : Nat) (bs : List (Int × Int)) (l g : Nat → Int) : Prop where
  l0 : ∀ p, p < bs.length → bA bs p ≤ l p
  lc : ∀ c, 0 < c → c < bs.length → l ((c - 1) / w) + 1 ≤ l c
  le : ∀ p, p < bs.length → l p = bA bs p ∨ (0 < p ∧ l p = l ((p - 1) / w) + 1)
  g0 : ∀ p, p < bs.length → g p ≤ bB bs p
  gc : ∀ c, 0 < c → c < bs.length → g ((c - 1) / w) ≤ g c - 1
  ge : ∀ p, p < bs.length → g p = bB bs p ∨ ∃ c, 0 < c ∧ c < bs.length ∧ (c - 1) / w = p ∧ g p = g c - 1
theorem par_ltB {c w : Nat} (h : 0 < c) : (c - 1) / w < c := by
  have : (c - 1) / w ≤ c - 1 := Nat.div_le_self _ _
  omega
theorem Told.uniqL {w : Nat} {bs : List (Int × Int)} {l g l' g' : Nat → Int} (h : Told w bs l g) (k : Told w bs l' g') : ∀ i p, p ≤ i → p < bs.length → l p = l' p
  | i, p, hi, hp => by
    have h1 := h.l0 p hp
    have h2 := k.l0 p hp
    by_cases h0 : p = 0
    · rcases h.le p hp with a | a
      · rcases k.le p hp with b | b
        · omega
        · omega
      · omega
    · match i, hi with
      | 0, hi => omega
      | i + 1, hi =>
        have hq := par_ltB (c := p) (w := w) (by omega)
        have ih := Told.uniqL h k i ((p - 1) / w) (by omega) (by omega)
        have h3 := h.lc p (by omega) hp
        have h4 := k.lc p (by omega) hp
        rcases h.le p hp with a | a <;> rcases k.le p hp with b | b <;> omega
theorem Told.uniqG {w : Nat} {bs : List (Int × Int)} {l g l' g' : Nat → Int} (h : Told w bs l g) (k : Told w bs l' g') : ∀ i p, bs.length - p ≤ i → p < bs.length → g p = g' p
  | 0, p, hi, hp => by omega
  | i + 1, p, hi, hp => by
    have h1 := h.g0 p hp
    have h2 := k.g0 p hp
    have ih : ∀ c, 0 < c → c < bs.length → (c - 1) / w = p → g c = g' c := fun c c0 cn e => by
      have hq := par_ltB (c := c) (w := w) c0
      exact Told.uniqG h k i c (by omega) cn
    rcases h.ge p hp with a | ⟨c, c0, cn, ce, a⟩
    · rcases k.ge p hp with b | ⟨d, d0, dn, de, b⟩
      · omega
      · have := h.gc d d0 dn
        rw [de] at this
        have := ih d d0 dn de
        omega
    · have e1 := ih c c0 cn ce
      have e2 := k.gc c c0 cn
      rw [ce] at e2
      rcases k.ge p hp with b | ⟨d, d0, dn, de, b⟩
      · omega
      · have e3 := h.gc d d0 dn
        rw [de] at e3
        have := ih d d0 dn de
        omega
/-- a heap of ranks within the bounds -/
structure Fit (w : Nat) (bs : List (Int × Int)) (r : Nat → Nat) : Prop where
  lt : ∀ p, p < bs.length → r p < bs.length
  inj : ∀ p q, p < bs.length → q < bs.length → r p = r q → p = q
  heap : ∀ c, 0 < c → c < bs.length → r ((c - 1) / w) < r c
  inn : ∀ p, p < bs.length → bA bs p ≤ r p ∧ (r p : Int) ≤ bB bs p
def Fits (w : Nat) (bs : List (Int × Int)) : Prop := ∃ r, Fit w bs r
theorem Fit.low {w : Nat} {bs : List (Int × Int)} {r : Nat → Nat} {l g : Nat → Int} (f : Fit w bs r) (h : Told w bs l g) : ∀ i p, p ≤ i → p < bs.length → l p ≤ r p
  | i, p, hi, hp => by
    have h1 := (f.inn p hp).1
    rcases h.le p hp with a | ⟨p0, a⟩
    · omega
    · match i, hi with
      | 0, hi => omega
      | i + 1, hi =>
        have hq := par_ltB (c := p) (w := w) p0
        have ih := Fit.low f h i ((p - 1) / w) (by omega) (by omega)
        have := f.heap p p0 hp
        omega
theorem Fit.high {w : Nat} {bs : List (Int × Int)} {r : Nat → Nat} {l g : Nat → Int} (f : Fit w bs r) (h : Told w bs l g) : ∀ i p, bs.length - p ≤ i → p < bs.length → (r p : Int) ≤ g p
  | 0, p, hi, hp => by omega
  | i + 1, p, hi, hp => by
    have h1 := (f.inn p hp).2
    rcases h.ge p hp with a | ⟨c, c0, cn, ce, a⟩
    · omega
    · have hq := par_ltB (c := c) (w := w) c0
      have ih := Fit.high f h i c (by omega) cn
      have := f.heap c c0 cn
      rw [ce] at this
      omega
def insL (n : Nat) (l g : Nat → Int) (a b : Int) : List Nat := (List.range n).filter fun p => decide (l p ≥ a) && decide (g p ≤ b)
def Crw (n : Nat) (l g : Nat → Int) (a b : Int) : Prop := ((insL n l g a b).length : Int) > max 0 (b - a + 1)
theorem mem_ins {n p : Nat} {l g : Nat → Int} {a b : Int} : p ∈ insL n l g a b ↔ p < n ∧ a ≤ l p ∧ g p ≤ b := by
  unfold insL
  rw [List.mem_filter, List.mem_range, Bool.and_eq_true, decide_eq_true_eq, decide_eq_true_eq]
/-- ranks between two bounds are few -/
theorem few_ranks {S : List Nat} {a b : Int} (f : Nat → Nat) (nd : S.Nodup) (inj : ∀ p ∈ S, ∀ q ∈ S, f p = f q → p = q) (h : ∀ p ∈ S, a ≤ f p ∧ (f p : Int) ≤ b) : (S.length : Int) ≤ max 0 (b - a + 1) := by
  by_cases hS : S = []
  · rw [hS]
    show (0 : Int) ≤ _
    omega
  obtain ⟨p0, hp0⟩ := List.exists_mem_of_ne_nil S hS
  have h0 := h p0 hp0
  have hb : 0 ≤ b := by omega
  have ndm : (S.map f).Nodup := List.pairwise_map.mpr (List.Pairwise.imp_of_mem (fun {p q} hp hq (hn : p ≠ q) e => hn (inj p hp q hq e)) nd)
  have hsub : S.map f ⊆ (List.range (b.toNat + 1)).drop (max 0 a).toNat := fun x hx => by
    obtain ⟨p, hp, rfl⟩ := List.mem_map.mp hx
    have hh := h p hp
    rw [List.mem_iff_getElem?]
    refine ⟨f p - (max 0 a).toNat, ?_⟩
    rw [List.getElem?_drop, List.getElem?_range (by omega)]
    congr 1
    omega
  have := ndm.length_le_of_subset hsub
  rw [List.length_map, List.length_drop, List.length_range] at this
  omega
theorem Fit.no_crowd {w : Nat} {bs : List (Int × Int)} {r : Nat → Nat} {l g : Nat → Int} (f : Fit w bs r) (h : Told w bs l g) (a b : Int) : ¬ Crw bs.length l g a b := fun c => by
  have := few_ranks (S := insL bs.length l g a b) (a := a) (b := b) r (List.Pairwise.filter _ List.nodup_range) (fun p hp q hq e => f.inj p q (mem_ins.mp hp).1 (mem_ins.mp hq).1 e) fun p hp => by
    obtain ⟨p1, p2, p3⟩ := mem_ins.mp hp
    have h1 := f.low h p p (Nat.le_refl _) p1
    have h2 := f.high h _ p (Nat.le_refl _) p1
    omega
  unfold Crw at c
  omega
theorem arg_min (f : Nat → Int) : ∀ S : List Nat, S ≠ [] → ∃ p ∈ S, ∀ q ∈ S, f p ≤ f q
  | [], h => absurd rfl h
  | [x], _ => ⟨x, List.mem_singleton.mpr rfl, fun q hq => by rw [List.mem_singleton.mp hq]; exact Int.le_refl _⟩
  | x :: y :: S, _ => by
    obtain ⟨p, hp, h⟩ := arg_min f (y :: S) (List.cons_ne_nil _ _)
    by_cases hx : f x ≤ f p
    · refine ⟨x, List.mem_cons_self, fun q hq => ?_⟩
      rcases List.mem_cons.mp hq with rfl | hq
      · exact Int.le_refl _
      · have := h q hq
        omega
    · refine ⟨p, List.mem_cons_of_mem _ hp, fun q hq => ?_⟩
      rcases List.mem_cons.mp hq with rfl | hq
      · omega
      · exact h q hq
/-- too many places within a window: a crowd, whose ends are bounds -/
theorem crowd_of {n : Nat} {l g : Nat → Int} {S : List Nat} {a b : Int} (nd : S.Nodup) (hS : ∀ p ∈ S, p < n ∧ a ≤ l p ∧ g p ≤ b) (hl : (S.length : Int) > max 0 (b - a + 1)) : ∃ p q, p < n ∧ q < n ∧ Crw n l g (l p) (g q) := by
  have hne : S ≠ [] := fun z => by
    rw [z] at hl
    have hl : (0 : Int) > _ := hl
    omega
  obtain ⟨p, hp, hpm⟩ := arg_min l S hne
  obtain ⟨q, hq, hqm⟩ := arg_min (fun x => - g x) S hne
  refine ⟨p, q, (hS p hp).1, (hS q hq).1, ?_⟩
  have hsub : S ⊆ insL n l g (l p) (g q) := fun x hx => mem_ins.mpr ⟨(hS x hx).1, hpm x hx, by have := hqm x hx; omega⟩
  have h1 := nd.length_le_of_subset hsub
  have h2 := (hS p hp).2.1
  have h3 := (hS q hq).2.2
  unfold Crw
  omega
theorem nd_inj {qs : List Nat} (nd : qs.Nodup) {i j : Nat} (hi : i < qs.length) (hj : j < qs.length) (e : qs[i] = qs[j]) : i = j := by
  have h := List.pairwise_iff_getElem.mp (List.nodup_iff_pairwise_ne.mp nd)
  rcases Nat.lt_trichotomy i j with q | q | q
  · exact absurd e (h i j hi hj q)
  · exact q
  · exact absurd e.symm (h j i hj hi q)
/-- the most urgent first -/
def Edf (n : Nat) (l g : Nat → Int) : List Nat → Prop
  | qs => qs.Nodup ∧ (∀ q ∈ qs, q < n) ∧ ∀ k (h : k < qs.length), l qs[k] ≤ k ∧ ∀ p, p < n → p ∉ qs.take k → l p ≤ k → g qs[k] ≤ g p
theorem edf_next {n : Nat} {l g : Nat → Int} {qs : List Nat} (e : Edf n l g qs) (hn : qs.length < n) (hg : ∀ p, p < n → g p ≤ (n : Int) - 1) (nc : ∀ p q, p < n → q < n → ¬ Crw n l g (l p) (g q)) : ∃ p, p < n ∧ p ∉ qs ∧ l p ≤ qs.length := by
  refine Classical.byContradiction fun no => ?_
  have h2 : ∀ p ∈ (List.range n).filter (fun p => decide (p ∉ qs)), p < n ∧ ((qs.length : Int) + 1) ≤ l p ∧ g p ≤ (n : Int) - 1 := fun p hp => by
    obtain ⟨h1, h2⟩ := List.mem_filter.mp hp
    have h1 := List.mem_range.mp h1
    have h2 := of_decide_eq_true h2
    refine ⟨h1, ?_, hg p h1⟩
    by_cases hl : l p ≤ qs.length
    · exact absurd ⟨p, h1, h2, hl⟩ no
    · omega
  have hlen : n ≤ ((List.range n).filter (fun p => decide (p ∉ qs))).length + qs.length := by
    have hs := List.nodup_range (n := n) |>.length_le_of_subset (l₂ := (List.range n).filter (fun p => decide (p ∉ qs)) ++ qs) fun x hx => by
      by_cases hq : x ∈ qs
      · exact List.mem_append_right _ hq
      · exact List.mem_append_left _ (List.mem_filter.mpr ⟨hx, decide_eq_true hq⟩)
    rw [List.length_range, List.length_append] at hs
    exact hs
  obtain ⟨p, q, hp, hq, hc⟩ := crowd_of (List.Pairwise.filter _ List.nodup_range) h2 (by omega)
  exact nc p q hp hq hc
theorem edf_dead {n : Nat} {l g : Nat → Int} {qs : List Nat} (e : Edf n l g qs) (hl0 : ∀ p, p < n → 0 ≤ l p) (nc : ∀ p q, p < n → q < n → ¬ Crw n l g (l p) (g q)) : ∀ k (h : k < qs.length), (k : Int) ≤ g qs[k] := fun k hk => by
  refine Classical.byContradiction fun hd => ?_
  obtain ⟨nd, lt, pick⟩ := e
  -- the last one ahead that is less urgent
  have hex : ∃ t, t ≤ k ∧ (t = 0 ∨ ∃ j, j + 1 = t ∧ ∃ h : j < qs.length, g qs[j] > g qs[k]) ∧ ∀ j, t ≤ j → (h : j < qs.length) → j < k → g qs[j] ≤ g qs[k] := by
    have : ∀ m, m ≤ k → ∃ t, t ≤ k ∧ (t = 0 ∨ ∃ j, j + 1 = t ∧ ∃ h : j < qs.length, g qs[j] > g qs[k]) ∧ ∀ j, t ≤ j → (h : j < qs.length) → j < m → g qs[j] ≤ g qs[k] := fun m => by
      induction m with
      | zero => exact fun _ => ⟨0, Nat.zero_le _, .inl rfl, fun j _ _ h => absurd h (by omega)⟩
      | succ m ih =>
        intro hm
        obtain ⟨t, t1, t2, t3⟩ := ih (by omega)
        by_cases hg : g (qs[m]'(by omega)) > g qs[k]
        · exact ⟨m + 1, hm, .inr ⟨m, rfl, by omega, hg⟩, fun j a _ b => absurd a (by omega)⟩
        · refine ⟨t, t1, t2, fun j a hj b => ?_⟩
          by_cases hjm : j = m
          · subst hjm
            omega
          · exact t3 j a hj (by omega)
    exact this k (Nat.le_refl _)
  obtain ⟨t, t1, t2, t3⟩ := hex
  have hS : ∀ p ∈ (qs.take (k + 1)).drop t, p < n ∧ (t : Int) ≤ l p ∧ g p ≤ g qs[k] := fun p hp => by
    obtain ⟨i, hi, rfl⟩ := List.getElem_of_mem hp
    rw [List.length_drop, List.length_take] at hi
    have hti : t + i < qs.length := by omega
    have ep : ((qs.take (k + 1)).drop t)[i]'(by rw [List.length_drop, List.length_take]; omega) = qs[t + i] := by
      rw [List.getElem_drop, List.getElem_take]
    rw [ep]
    have hpn := lt _ (List.getElem_mem hti)
    refine ⟨hpn, ?_, ?_⟩
    · rcases t2 with t2 | ⟨j, j1, j2, j3⟩
      · have := hl0 _ hpn
        omega
      · by_cases hl : l qs[t + i] ≤ j
        · have hnot : qs[t + i] ∉ qs.take j := fun z => by
            obtain ⟨i2, hi2, e2⟩ := List.getElem_of_mem z
            rw [List.length_take] at hi2
            rw [List.getElem_take] at e2
            have := nd_inj nd (show i2 < qs.length by omega) hti e2
            omega
          have h5 := (pick j j2).2 _ hpn hnot hl
          by_cases hik : t + i = k
          · have : g qs[t + i] = g qs[k] := by congr 2
            omega
          · have := t3 (t + i) (by omega) hti (by omega)
            omega
        · omega
    · by_cases hik : t + i = k
      · have : g qs[t + i] = g qs[k] := by congr 2
        omega
      · exact t3 (t + i) (by omega) hti (by omega)
  have hlen : ((qs.take (k + 1)).drop t).length = k + 1 - t := by
    rw [List.length_drop, List.length_take]
    omega
  obtain ⟨p, q, hp, hq, hc⟩ := crowd_of (((List.take_sublist _ _).nodup nd).sublist (List.drop_sublist _ _)) hS (by rw [hlen]; omega)
  exact nc p q hp hq hc
/-- the place's number in the order -/
theorem edf_fit {w : Nat} {bs : List (Int × Int)} {l g : Nat → Int} {qs : List Nat} (ok : BOk bs) (h : Told w bs l g) (e : Edf bs.length l g qs) (hn : qs.length = bs.length) (nc : ∀ p q, p < bs.length → q < bs.length → ¬ Crw bs.length l g (l p) (g q)) : Fit w bs (fun p => qs.idxOf p) := by
  have hl0 : ∀ p, p < bs.length → 0 ≤ l p := fun p hp => by
    have h1 := (ok p hp).1
    have h2 := h.l0 p hp
    omega
  have dead := edf_dead e hl0 nc
  obtain ⟨nd, lt, pick⟩ := e
  have all : ∀ p, p < bs.length → p ∈ qs := fun p hp => by
    by_cases hq : p ∈ qs
    · exact hq
    · have := (List.nodup_cons.mpr ⟨hq, nd⟩).length_le_of_subset (l₂ := List.range bs.length) fun x hx => by
        rcases List.mem_cons.mp hx with rfl | hx
        · exact List.mem_range.mpr hp
        · exact List.mem_range.mpr (lt x hx)
      rw [List.length_cons, List.length_range] at this
      omega
  have ix : ∀ p, p < bs.length → ∃ h : qs.idxOf p < qs.length, qs[qs.idxOf p] = p := fun p hp => ⟨List.idxOf_lt_length_iff.mpr (all p hp), List.getElem_idxOf _⟩
  refine ⟨fun p hp => by rw [← hn]; exact (ix p hp).1, fun p q hp hq e => ?_, fun c c0 cn => ?_, fun p hp => ?_⟩
  · have h1 := (ix p hp).2
    have h2 := (ix q hq).2
    rw [← h1, ← h2]
    congr 1
  · have hpn := par_ltB (c := c) (w := w) c0
    obtain ⟨i1, e1⟩ := ix c cn
    obtain ⟨i2, e2⟩ := ix ((c - 1) / w) (by omega)
    refine Classical.byContradiction fun hge => ?_
    have hnot : (c - 1) / w ∉ qs.take (qs.idxOf c) := fun z => by
      obtain ⟨j, hj, ej⟩ := List.getElem_of_mem z
      rw [List.length_take] at hj
      rw [List.getElem_take] at ej
      rw [← e2] at ej
      have := nd_inj nd (show j < qs.length by omega) i2 ej
      omega
    have h1 := (pick _ i1).1
    rw [e1] at h1
    have h2 := h.lc c c0 cn
    have h3 := (pick _ i1).2 ((c - 1) / w) (by omega) hnot (by omega)
    rw [e1] at h3
    have h4 := h.gc c c0 cn
    omega
  · obtain ⟨i1, e1⟩ := ix p hp
    have h1 := (pick _ i1).1
    have h2 := dead _ i1
    rw [e1] at h1 h2
    have h3 := h.l0 p hp
    have h4 := h.g0 p hp
    omega

end
end Tw

set_option Elab.async false
set_option linter.all false
set_option maxRecDepth 100000
set_option maxHeartbeats 2000000
namespace Tw
open PySem PySem.Spec PyProof.Rows L2
section
variable {P : Program} {w : World} {K : PySem.W.Frag} {mg : Str → Option Value} {base : Heap} {A : Ad}
open LamX (ExtN Tabs TabS)
/-- a pair of ints at an address -/
def PrAt (H : Hp) (v : V) (p : Int × Int) : Prop := ∃ t, v = .ref t ∧ H t = some (.tup [.int p.1, .int p.2])
abbrev PrsAt (H : Hp) : List V → List (Int × Int) → Prop := Paired (PrAt H)
theorem extN_of {H H' : Hp} (s : Same H H') : ExtN H H' := fun b o e _ => s b o e
theorem PrsAt.ext {H H' : Hp} {xs : List V} {ps : List (Int × Int)} (h : PrsAt H xs ps) (e : ExtN H H') : PrsAt H' xs ps := L2.Paired.mapP h fun _ _ ⟨t, q, z⟩ => ⟨t, q, e _ _ z fun ps z => nomatch z⟩
theorem PrsAt.same {H H' : Hp} {xs : List V} {ps : List (Int × Int)} (h : PrsAt H xs ps) (s : Same H H') : PrsAt H' xs ps := h.ext (extN_of s)
theorem b_ca (T : Tx K mg A) : L2.Binds K A.d_check_arms ["arms"] [] := T.F_check_arms.binds fun _ _ _ _ _ _ us hl => match us, hl with | [_], _ => rfl
theorem b_ii (T : Tx K mg A) : L2.Binds K A.d_is_integer_from ["thing", "least", "greatest"] [] := T.F_is_integer_from.binds fun _ _ _ _ _ _ us hl => match us, hl with | [_, _, _], _ => rfl
theorem cst {x : Str} {n : Int} (h : mg x = some (.int n 0) ∨ ∃ t, mg x = some (.int n t)) : ∃ t, mg x = some (.int n t) := h.elim (fun e => ⟨0, e⟩) id
/-- True just for ints -/
def spIs (K : PySem.W.Frag) : Sp := fun vs H Q _ => ∃ x : V, vs = [x] ∧
  ((∃ i, x = .int i ∧ Q (.bl true) H) ∨ (∃ n b1 b2, TyX K H x (.type n) ∧ kitB n "int" = some b1 ∧ kitB n "bool" = some b2 ∧ (b1 && !b2) = false ∧ Q (.bl false) H))
theorem ok_is (T : Tx K mg A) : FnOk P w K mg base CX0 1 A.f_is_integer A.d_is_integer ["thing"] (spIs K) := by
  refine T.F_is_integer.ok sc_is_integer (fun vs H Q E h => ?_) (fun cdv B outer s H vs Q E hr h => ?_)
  · obtain ⟨x, rfl, _⟩ := h
    rfl
  · obtain ⟨x, rfl, h⟩ := h
    refine ⟨_, pss_one (ps_ret (pe_and (pe_callB call_isi (by rfl) T.g_isinstance (by decide +kernel) (pa_cons (pv 0) (pa_cons (pe_bltn (v := .ty "int") (by rfl) T.g_int (by decide +kernel) rfl) pa_nil)))
      (pe_one (pe_not (pe_callB call_isi (by rfl) T.g_isinstance (by decide +kernel) (pa_cons (pv 0) (pa_cons (pe_bltn (v := .ty "bool") (by rfl) T.g_bool (by decide +kernel) rfl) pa_nil))))))), ?_⟩
    rcases h with ⟨i, rfl, q⟩ | ⟨n, b1, b2, ty, k1, k2, hb, q⟩
    · refine ⟨_, rfl, _, _, .type "int", .type "int", true, rfl, .ty "int", .base (.int i), kit_ty (by decide +kernel), true, rfl, iteT ?_⟩
      exact ⟨_, rfl, _, _, .type "int", .type "bool", false, rfl, .ty "bool", .base (.int i), kit_ty (by decide +kernel), false, rfl, q⟩
    · refine ⟨_, rfl, _, _, .type n, .type "int", b1, rfl, .ty "int", ty, kit_ty k1, b1, rfl, ?_⟩
      cases b1 with
      | false => exact iteF q
      | true =>
        cases b2 with
        | false => cases hb
        | true => exact iteT ⟨_, rfl, _, _, .type n, .type "bool", true, rfl, .ty "bool", ty, kit_ty k2, true, rfl, q⟩
theorem b_is (T : Tx K mg A) : L2.Binds K A.d_is_integer ["thing"] [] := T.F_is_integer.binds fun _ _ _ _ _ _ us hl => match us, hl with | [_], _ => rfl
/-- True just for ints within; other things by their class -/
def spII (K : PySem.W.Frag) : Sp := fun vs H Q _ => ∃ (x : V) (a b : Int), vs = [x, .int a, .int b] ∧
  ((∃ i, x = .int i ∧ Q (.bl (decide (a ≤ i ∧ i ≤ b))) H) ∨ (∃ n b1 b2, TyX K H x (.type n) ∧ kitB n "int" = some b1 ∧ kitB n "bool" = some b2 ∧ (b1 && !b2) = false ∧ Q (.bl false) H))
theorem ok_ii (T : Tx K mg A) : FnOk P w K mg base CX0 2 A.f_is_integer_from A.d_is_integer_from ["thing", "least", "greatest"] (spII K) := by
  refine T.F_is_integer_from.ok sc_is_integer_from (fun vs H Q E h => ?_) (fun cdv B outer s H vs Q E hr h => ?_)
  · obtain ⟨x, a, b, rfl, _⟩ := h
    rfl
  · obtain ⟨x, a, b, rfl, h⟩ := h
    refine ⟨_, pss_one (ps_ret (pe_and (pe_call (ok_is T) hr (by rfl) T.m_is_integer T.F_is_integer.kp (b_is T) .nil pass0 (pa_cons (pv 0) pa_nil))
        (pe_one (pe_chain op_le op_le (pv 1) (pv 0) (pv 2))))), ?_⟩
    rcases h with ⟨i, rfl, q⟩ | h
    · refine ⟨_, rfl, _, rfl, .inl ⟨i, rfl, true, rfl, iteT ?_⟩⟩
      refine ⟨_, rfl, _, rfl, _, _, rfl, rfl, _, rfl, ?_⟩
      by_cases h1 : a ≤ i
      · rw [decide_eq_true h1]
        refine iteT ⟨_, rfl, _, _, rfl, rfl, ?_⟩
        have e : decide (a ≤ i ∧ i ≤ b) = decide (i ≤ b) := by simp [h1]
        rw [e] at q
        exact q
      · rw [decide_eq_false h1]
        have e : decide (a ≤ i ∧ i ≤ b) = false := by simp [h1]
        rw [e] at q
        exact iteF q
    · obtain ⟨n, b1, b2, ty, k1, k2, hb, q⟩ := h
      exact ⟨_, rfl, _, rfl, .inr ⟨n, b1, b2, ty, k1, k2, hb, false, rfl, iteF q⟩⟩
def spCa : Sp := fun vs H Q _ => ∃ i : Int, vs = [.int i] ∧ (1 ≤ i ∧ i ≤ 4) ∧ Q .non H
theorem ok_ca (T : Tx K mg A) : FnOk P w K mg base CX0 3 A.f_check_arms A.d_check_arms ["arms"] spCa := by
  refine T.F_check_arms.ok sc_check_arms (fun vs H Q E h => ?_) (fun cdv B outer s H vs Q E hr h => ?_)
  · obtain ⟨i, rfl, _⟩ := h
    rfl
  · obtain ⟨i, rfl, hi, q⟩ := h
    obtain ⟨t, hg⟩ := cst T.c_MOST_ARMS
    refine ⟨_, pss_one (ps_if (pt_not (pt_val (pe_call (ok_ii T) hr (by rfl) T.m_is_integer_from T.F_is_integer_from.kp (b_ii T) .nil pass0
      (pa_cons (pv 0) (pa_cons pe_int (pa_cons (pe_glob (by rfl) hg (relI _ _)) pa_nil)))))) (pss_one ps_never) pss_nil), ?_⟩
    refine ⟨_, rfl, _, _, _, rfl, .inl ⟨i, rfl, _, rfl, ?_⟩⟩
    rw [decide_eq_true hi]
    exact iteF q
theorem prs_get {H : Hp} : ∀ {xs : List V} {ps : List (Int × Int)} {i : Nat} {x : V}, PrsAt H xs ps → xs[i]? = some x → ∃ p, ps[i]? = some p ∧ PrAt H x p
  | _, _, 0, x, .cons a b, h => ⟨_, rfl, by cases h; exact a⟩
  | _, _, i + 1, x, .cons a b, h => prs_get (i := i) b h
abbrev rLn (K : PySem.W.Frag) : List V → Hp → VK → Prop := fun xs H Q => ∃ p ys, xs = [.ref p] ∧ (SqL K H p ys ∨ SqT K H p ys) ∧ Q (.int ys.length) H
end
end Tw

set_option Elab.async false
set_option linter.all false
set_option maxRecDepth 100000
set_option maxHeartbeats 2000000
namespace Tw
open PySem PySem.Spec PyProof.Rows L2
section
variable {P : Program} {w : World} {K : PySem.W.Frag} {mg : Str → Option Value} {base : Heap} {A : Ad}
open LamX (ExtN Tabs TabS)
/-! pairs of ranks: spII ok_ii b_ii spCa ok_ca b_ca PrAt PrsAt PrsAt.same prs_get kit_ty walk_enum cst sizeLine_eq -/
def spIpr : Sp := fun vs H Q _ => ∃ (t n : Nat) (a b : Int), vs = [.ref t, .int n] ∧ H t = some (.tup [.int a, .int b]) ∧ 0 ≤ a ∧ a ≤ b ∧ b ≤ (n : Int) - 1 ∧ Q (.bl true) H
theorem ok_ipr (T : Tx K mg A) : FnOk P w K mg base CX0 3 A.f_is_pair_of_ranks A.d_is_pair_of_ranks ["thing", "many"] spIpr := by
  refine T.F_is_pair_of_ranks.ok sc_is_pair_of_ranks (fun vs H Q E h => ?_) (fun cdv B outer s H vs Q E hr h => ?_)
  · obtain ⟨t, n, a, b, rfl, _⟩ := h
    rfl
  · obtain ⟨t, n, a, b, rfl, et, h0, hab, hb, q⟩ := h
    have nd := sc_is_pair_of_ranks.nd
    refine ⟨_, (C8.pss_cut (ps_if (PW.pt (pw_or (pt_not (pt_val (pe_callB (r := rIsi K) call_isi (by rfl) T.g_isinstance (by decide +kernel) (pa_cons (pv 0) (pa_cons (pe_bltn (v := .ty "tuple") (by rfl) T.g_tuple (by decide +kernel) rfl) pa_nil))))) (pw_or1 (pt_cmpR op_ne (pe_callB (r := rLn K) call_len_seq (by rfl) T.g_len PySem.boot_len (pa_cons (pv 0) pa_nil)) pe_int (nomark _))))) (pss_one (ps_ret pe_bl)) pss_nil)
      (pss_cons (ps_asg (pv 0) (pg_tup rfl (pgs_cons (pg_name (i := 2) nd rfl (Or.inl rfl)) (pgs_cons (pg_name (i := 3) nd rfl (Or.inl rfl)) pgs_nil))))
      (pss_one (ps_ret (pe_and (pe_call (ok_ii T) (hr.mono (by decide)) (by rfl) T.m_is_integer_from T.F_is_integer_from.kp (b_ii T) .nil pass0 (pa_cons (pv 2) (pa_cons pe_int (pa_cons (pe_op op_sub (pv 1) pe_int) pa_nil)))) (pe_one (pe_call (ok_ii T) (hr.mono (by decide)) (by rfl) T.m_is_integer_from T.F_is_integer_from.kp (b_ii T) .nil pass0 (pa_cons (pv 3) (pa_cons (pv 2) (pa_cons (pe_op op_sub (pv 1) pe_int) pa_nil)))))))))), ?_⟩
    refine ⟨fun σ' H' => σ' = [some (.ref t), some (.int n), none, none] ∧ H' = H, ?_, ?_⟩
    · refine ⟨_, rfl, _, _, .type "tuple", .type "tuple", true, rfl, .ty "tuple", .base (.tup et), kit_ty (by decide +kernel), true, rfl, ?_⟩
      refine iteF ⟨_, rfl, t, _, rfl, .inr (SqT.of et), rfl, _, rfl, ?_⟩
      exact ite_b (c := false) rfl (iteF ⟨rfl, rfl⟩)
    rintro σ' H1 ⟨rfl, rfl⟩
    refine ⟨_, rfl, ?_⟩
    refine ⟨t, _, rfl, SqT.of et, rfl, ?_⟩
    refine ⟨_, _, rfl, ?_⟩
    refine ⟨_, _, rfl, rfl, ?_⟩
    refine ⟨_, rfl, _, rfl, _, _, rfl, rfl, _, _, _, rfl, .inl ⟨a, rfl, ?_⟩⟩
    rw [decide_eq_true (show 0 ≤ a ∧ a ≤ (n : Int) - 1 by omega)]
    refine ⟨true, rfl, iteT ?_⟩
    refine ⟨_, rfl, _, rfl, _, rfl, _, _, rfl, rfl, _, _, _, rfl, .inl ⟨b, rfl, ?_⟩⟩
    rw [decide_eq_true (show a ≤ b ∧ b ≤ (n : Int) - 1 by omega)]
    exact q
theorem b_ipr (T : Tx K mg A) : L2.Binds K A.d_is_pair_of_ranks ["thing", "many"] [] := T.F_is_pair_of_ranks.binds fun _ _ _ _ _ _ us hl => match us, hl with | [_, _], _ => rfl
theorem bok_at {bs : List (Int × Int)} (h : BOk bs) {i : Nat} {p : Int × Int} (e : bs[i]? = some p) : 0 ≤ p.1 ∧ p.1 ≤ p.2 ∧ p.2 ≤ (bs.length : Int) - 1 := by
  obtain ⟨hi, e⟩ := List.getElem?_eq_some_iff.mp e
  have h := h i hi
  unfold bA bB at h
  rw [List.getD_eq_getElem?_getD, List.getElem?_eq_getElem hi] at h
  rw [← e]
  exact h
def spCb : Sp := fun vs H Q _ => ∃ (r w : Nat) (xs : List V) (bs : List (Int × Int)), vs = [.ref r, .int w] ∧ (1 ≤ w ∧ w ≤ 4) ∧ H r = some (.lst xs) ∧ PrsAt H xs bs ∧ bs.length ≤ 12 ∧ BOk bs ∧ ∀ H' : Hp, Same H H' → Q .non H'
theorem ok_cb (T : Tx K mg A) : FnOk P w K mg base CX0 4 A.f_check_bounds A.d_check_bounds ["bounds", "arms"] spCb := by
  refine T.F_check_bounds.ok sc_check_bounds (fun vs H Q E h => ?_) (fun cdv B outer s H vs Q E hr h => ?_)
  · obtain ⟨r, w, xs, bs, rfl, _⟩ := h
    rfl
  · obtain ⟨r, w, xs, bs, rfl, hw, er, hps, hl, hok, q⟩ := h
    have nd := sc_check_bounds.nd
    obtain ⟨_, hg_MOST_PLACES⟩ := cst T.c_MOST_PLACES
    have hxl := Paired.length hps
    refine ⟨_, (pss_cons (ps_expr (pe_call (ok_ca T) (hr.mono (by decide)) (by rfl) T.m_check_arms T.F_check_arms.kp (b_ca T) .nil pass0 (pa_cons (pv 1) pa_nil)))
      (pss_cons (ps_if (PW.pt (pw_or (pt_not (pt_val (pe_callB call_isiT (by rfl) T.g_isinstance (by decide +kernel) (pa_cons (pv 0) (pa_cons (pe_tup (pa_cons (pe_bltn (v := .ty "list") (by rfl) T.g_list (by decide +kernel) rfl) (pa_cons (pe_bltn (v := .ty "tuple") (by rfl) T.g_tuple (by decide +kernel) rfl) pa_nil))) pa_nil))))) (pw_or1 (pt_cmpR op_gt (pe_callB (r := rLn K) call_len_seq (by rfl) T.g_len PySem.boot_len (pa_cons (pv 0) pa_nil)) (pe_glob (by rfl) hg_MOST_PLACES (relI _ _)) (nomark _))))) (pss_one ps_never) pss_nil)
      (pss_one (ps_for PassesOwn.never rfl (pi_enS (by rfl) T.g_enumerate (pa_cons (pv 0) pa_nil)) (pg_tup rfl (pgs_cons (pg_name (i := 2) nd rfl (Or.inl rfl)) (pgs_cons (pg_name (i := 3) nd rfl (Or.inl rfl)) pgs_nil))) (pss_one (ps_if (pt_not (pt_val (pe_call (ok_ipr T) (hr.mono (by decide)) (by rfl) T.m_is_pair_of_ranks T.F_is_pair_of_ranks.kp (b_ipr T) .nil pass0 (pa_cons (pv 3) (pa_cons (pe_callB (r := rLn K) call_len_seq (by rfl) T.g_len PySem.boot_len (pa_cons (pv 0) pa_nil)) pa_nil))))) (pss_one ps_never) pss_nil)))))), ?_⟩
    refine ⟨_, rfl, _, rfl, by omega, ?_⟩
    refine ⟨_, rfl, by show 2 ≤ sizeLine; decide, fun tp htp => ?_⟩
    have s1 := Same.up (o := .tup [.ty "list", .ty "tuple"]) htp
    have er1 := s1 _ _ er
    refine ⟨_, tp, _, .type "list", [.type "list", .type "tuple"], true, rfl, upd_same, .cons (.ty _) (.cons (.ty _) .nil), .base (.lst er1), kitAny_cons (b := true) (kit_ty (by decide +kernel)) (fun z => by cases z) (fun _ => rfl), true, rfl, ?_⟩
    refine iteF ⟨_, rfl, r, _, rfl, .inl (SqL.of er1), _, _, rfl, rfl, _, rfl, ite2 (fun z => ?_) (fun _ => ?_)⟩
    · exfalso
      have := of_decide_eq_true z
      omega
    generalize upd H tp (.tup [.ty "list", .ty "tuple"]) = G at s1 er1
    refine ⟨_, rfl, r, _, rfl, .inl ⟨SqL.of er1, for_it (walk_enum (xs := xs)) (fun i σ' H' => (∃ z y, σ' = [some (.ref r), some (.int w), z, y]) ∧ Same G H') ⟨⟨none, none, rfl⟩, Same.refl _⟩ (fun i σ' H' _ ⟨_, s⟩ => SqL.of (s _ _ er1)) ?_ ?_⟩⟩
    · rintro i v σ' H2 H3 hi ⟨⟨z, y, rfl⟩, s⟩ ⟨T', x, x2, rfl, hT, rfl, e1, e2⟩
      cases e1
      obtain ⟨p, ep, t, rfl, et⟩ := prs_get hps e2
      have hp := bok_at hok ep
      refine ⟨_, _, rfl, SqT.of upd_same, rfl, _, _, rfl, _, _, rfl, rfl, ?_⟩
      have s3 := s.trans (Same.up (o := .tup [V.int (i : Nat), V.ref t]) hT)
      generalize upd H2 T' (.tup [V.int (i : Nat), V.ref t]) = G3 at s3
      refine ⟨_, rfl, _, rfl, r, _, rfl, .inl (SqL.of (s3 _ _ er1)), t, xs.length, p.1, p.2, rfl, s3 _ _ (s1 _ _ et), hp.1, hp.2.1, by rw [hxl]; exact hp.2.2, ?_⟩
      exact ⟨true, rfl, iteF ⟨⟨_, _, rfl⟩, s3⟩⟩
    · rintro σ' H2 ⟨_, s⟩
      exact q _ (s1.trans s)
theorem b_cb (T : Tx K mg A) : L2.Binds K A.d_check_bounds ["bounds", "arms"] [] := T.F_check_bounds.binds fun _ _ _ _ _ _ us hl => match us, hl with | [_, _], _ => rfl

end
end Tw

set_option Elab.async false
set_option linter.all false
set_option maxRecDepth 100000
set_option maxHeartbeats 2000000
namespace Tw
open PySem PySem.Spec PyProof.Rows L2
section
variable {P : Program} {w : World} {K : PySem.W.Frag} {mg : Str → Option Value} {base : Heap} {A : Ad}
open LamX (ExtN Tabs TabS)
/-- what stood, but for what stands at d -/
def But (d : Addr) (H H' : Hp) : Prop := ∀ b o, b ≠ d → H b = some o → H' b = some o
/-- the places of a tree -/
def pl (n : Nat) : List V := (List.range n).map fun i => V.int (i : Nat)
/-- its attributes -/
def tf (n w t : Nat) : List (Str × V) := putF "_places" (.ref t) (putF "arms" (.int w) (putF "many" (.int n) []))
/-- a tree of n places and w arms stands at p -/
structure TreeAt (C : Addr) (H : Hp) (p n w : Nat) : Prop where
  ob : ∃ dx t, H p = some (.ins C dx (tf n w t)) ∧ H t = some (.tup (pl n))
  hn : n ≤ 12
  hw : 1 ≤ w ∧ w ≤ 4
theorem TreeAt.same {C : Addr} {H H' : Hp} {p n w : Nat} (h : TreeAt C H p n w) (s : Same H H') : TreeAt C H' p n w :=
  ⟨let ⟨dx, t, a, b⟩ := h.ob; ⟨dx, t, s _ _ a, s _ _ b⟩, h.hn, h.hw⟩
theorem b_gi (T : Tx K mg A) : L2.Binds K A.d_t___getitem__ ["self", "place"] [] := T.F_t___getitem__.binds fun _ _ _ _ _ _ us hl => match us, hl with | [_, _], _ => rfl
theorem b_iter (T : Tx K mg A) : L2.Binds K A.d_t___iter__ ["self"] [] := T.F_t___iter__.binds fun _ _ _ _ _ _ us hl => match us, hl with | [_], _ => rfl
theorem b_len (T : Tx K mg A) : L2.Binds K A.d_t___len__ ["self"] [] := T.F_t___len__.binds fun _ _ _ _ _ _ us hl => match us, hl with | [_], _ => rfl
theorem ixN_nat {n p : Nat} (h : p < n) : ixN n (p : Int) = some p := by
  unfold ixN
  rw [if_pos (by omega), if_pos (by omega), Int.toNat_natCast]
theorem kb_init (T : Tx K mg A) : ∃ mv : List Value, KBn K A.d_t___init__ ["self", "many", "arms"] 2 ["arms"] (fun us ws => us ++ (mv ++ ws)) (fun vs zs => vs ++ zs) := by
  obtain ⟨mv, h⟩ := T.F_t___init__.kbinds0 (ps := ["self", "many", "arms"]) 2 ["arms"] [] (fun us mv ws => us ++ (mv ++ ws)) (by simp) (by simp) (fun r1 r2 r3 => r1.append (r2.append r3))
    (fun D doc pm an cdv ct us mv ws h1 h2 h3 => by
      match us, mv, ws, h1, h2, h3 with
      | [a, b], [], [c], _, _, _ => rfl)
  exact ⟨mv, h⟩
def keyAt (ks : List Int) (p : Nat) : Int := ks.getD p 0
theorem keyAt_set {ks : List Int} {a p : Nat} {v : Int} (ha : a < ks.length) : keyAt (ks.set a v) p = if p = a then v else keyAt ks p := by
  unfold keyAt
  rw [List.getD_eq_getElem?_getD, List.getD_eq_getElem?_getD, List.getElem?_set]
  by_cases h : a = p
  · rw [if_pos h, if_pos (by omega), if_pos h.symm]
    rfl
  · rw [if_neg h, if_neg (fun z => h z.symm)]
theorem key_at {ks : List Int} {p : Nat} (h : p < ks.length) : atI (ks.map V.int) (p : Int) = some (V.int (keyAt ks p)) := by
  have e : (ks.map V.int)[p]? = some (V.int (keyAt ks p)) := by
    unfold keyAt
    rw [List.getElem?_map, List.getD_eq_getElem?_getD, List.getElem?_eq_getElem h]
    rfl
  exact atI_nat e
theorem keyAt_get {ks : List Int} {i : Nat} (h : i < ks.length) : keyAt ks i = ks[i] := by
  unfold keyAt
  rw [List.getD_eq_getElem?_getD, List.getElem?_eq_getElem h]
  rfl
theorem key_atI {ks : List Int} {i : Nat} (h : i < ks.length) : atI (ks.map V.int) (i : Int) = some (V.int (keyAt ks i)) := by
  refine atI_nat ?_
  rw [List.getElem?_map, List.getElem?_eq_getElem h, keyAt_get h]
  rfl
def kidsN (n w i : Nat) : List Nat := ((List.range n).drop (min (i * w + 1) n)).take (min (i * w + 1 + w) n - min (i * w + 1) n)
/-- the children as the law looks for them -/
def kidL (n w i : Nat) : List Nat := ((List.range (n - 1)).filter fun j => decide (j / w = i)).map (· + 1)
theorem kids_same : ∀ n, n < 13 → ∀ w, w < 5 → ∀ i, i < n → 1 ≤ w → kidsN n w i = kidL n w i := by decide +kernel
theorem kidsN_mem {n w i c : Nat} (hw : 1 ≤ w ∧ w ≤ 4) (hn : n ≤ 12) (hi : i < n) : c ∈ kidsN n w i ↔ 1 ≤ c ∧ c < n ∧ (c - 1) / w = i := by
  rw [kids_same n (by omega) w (by omega) i hi hw.1]
  unfold kidL
  rw [List.mem_map]
  refine ⟨fun ⟨j, hj, e⟩ => ?_, fun ⟨h1, h2, h3⟩ => ⟨c - 1, ?_, by omega⟩⟩
  · rw [List.mem_filter, List.mem_range, decide_eq_true_eq] at hj
    subst e
    exact ⟨by omega, by omega, by rw [Nat.add_sub_cancel]; exact hj.2⟩
  · rw [List.mem_filter, List.mem_range, decide_eq_true_eq]
    exact ⟨by omega, h3⟩
def vi (l : List Nat) : List V := l.map fun i => V.int (i : Nat)
theorem pl_len (n : Nat) : (pl n).length = n := by unfold pl; rw [List.length_map, List.length_range]
/-- the children of a place, as the program cuts them -/
def kids (n w i : Nat) : List V := cutV (pl n) (some ((i : Int) * (w : Int) + 1)) (some ((i : Int) * (w : Int) + 1 + (w : Int)))
theorem kids_eq (n w i : Nat) : kids n w i = vi (kidsN n w i) := by
  unfold kids cutV kidsN
  rw [pl_len, show ((i : Int) * (w : Int) + 1) = ((i * w + 1 : Nat) : Int) by push_cast; rfl, show (((i * w + 1 : Nat) : Int) + (w : Int)) = ((i * w + 1 + w : Nat) : Int) by push_cast; rfl, HT.sIx_nat, HT.sIx_nat]
  unfold vi pl
  rw [List.map_take, List.map_drop]
theorem n3 : ¬ (("arms" : Str) = "_places") := by decide +kernel
/-- what stood before an instance was made stands behind its making -/
theorem new_same {C x dx : Addr} {H H' : Hp} (nx : H x = none) (ndx : H dx = none) (k : ∀ b o, (upd (upd H dx (.own x)) x (.ins C dx [])) b = some o → b ≠ x → H' b = some o) : Same H H' := fun b o e => by
  refine k b o ?_ (ne_of_none e nx)
  rw [upd_ne (ne_of_none e nx), upd_ne (ne_of_none e ndx)]
  exact e
def spCp : Sp := fun vs H Q _ => ∃ i n : Int, vs = [.int i, .int n] ∧ (0 ≤ i ∧ i < n) ∧ Q .non H
theorem ok_cp (T : Tx K mg A) : FnOk P w K mg base CX0 3 A.f_check_place A.d_check_place ["place", "many"] spCp := by
  refine T.F_check_place.ok sc_check_place (fun vs H Q E h => ?_) (fun cdv B outer s H vs Q E hr h => ?_)
  · obtain ⟨i, n, rfl, _⟩ := h
    rfl
  · obtain ⟨i, n, rfl, hi, q⟩ := h
    refine ⟨_, pss_one (ps_if (pt_not (pt_val (pe_call (ok_ii T) hr (by rfl) T.m_is_integer_from T.F_is_integer_from.kp (b_ii T) .nil pass0
      (pa_cons (pv 0) (pa_cons pe_int (pa_cons (pe_op op_sub (pv 1) pe_int) pa_nil)))))) (pss_one ps_never) pss_nil), ?_⟩
    refine ⟨_, rfl, _, rfl, _, _, rfl, rfl, _, _, _, rfl, .inl ⟨i, rfl, _, rfl, ?_⟩⟩
    rw [decide_eq_true (show 0 ≤ i ∧ i ≤ n - 1 by omega)]
    exact iteF q
theorem b_cp (T : Tx K mg A) : L2.Binds K A.d_check_place ["place", "many"] [] := T.F_check_place.binds fun _ _ _ _ _ _ us hl => match us, hl with | [_, _], _ => rfl
theorem n1 : ¬ (("many" : Str) = "arms") := by decide +kernel
theorem n2 : ¬ (("many" : Str) = "_places") := by decide +kernel
theorem tf_many (n w t : Nat) : (tf n w t).lookup ("many" : Str) = some (.int n) := by
  unfold tf
  rw [lookup_putF, if_neg n2, lookup_putF, if_neg n1, lookup_putF, if_pos rfl]
theorem tf_pl (n w t : Nat) : (tf n w t).lookup ("_places" : Str) = some (.ref t) := by
  unfold tf
  rw [lookup_putF, if_pos rfl]
theorem tf_arms (n w t : Nat) : (tf n w t).lookup ("arms" : Str) = some (.int w) := by
  unfold tf
  rw [lookup_putF, if_neg n3, lookup_putF, if_pos rfl]
def spGi (C : Addr) : Sp := fun vs H Q _ => ∃ (p n w i : Nat), vs = [.ref p, .int i] ∧ TreeAt C H p n w ∧ i < n ∧ ∀ H' q, Same H H' → H' q = some (.tup (kids n w i)) → Q (.ref q) H'
theorem ok_gi (T : Tx K mg A) : FnOk P w K mg base CX0 4 A.f_t___getitem__ A.d_t___getitem__ ["self", "place"] (spGi A.C) := by
  refine T.F_t___getitem__.ok sc_t___getitem__ (fun vs H Q E h => ?_) (fun cdv B outer s H vs Q E hr h => ?_)
  · obtain ⟨p, n, w, i, rfl, _⟩ := h
    rfl
  · obtain ⟨p, n, w, i, rfl, t, hi, q⟩ := h
    obtain ⟨dx, l, h1, h2⟩ := t.ob
    refine ⟨_, pss_cons (ps_expr (pe_call (ok_cp T) hr (by rfl) T.m_check_place T.F_check_place.kp (b_cp T) .nil pass0 (pa_cons (pv 1) (pa_cons (pe_fld (pv 0) rfl) pa_nil))))
      (pss_cons (ps_set (i := 2) sc_t___getitem__.nd rfl (Or.inl rfl) (pe_op op_add (pe_op op_mul (pv 1) (pe_fld (pv 0) rfl)) pe_int))
      (pss_one (ps_ret (pe_slice sl_tup (pe_fld (pv 0) rfl) (po_some (pv 2)) (po_some (pe_op op_add (pv 2) (pe_fld (pv 0) rfl))))))), ?_⟩
    refine ⟨_, rfl, _, rfl, p, A.C, dx, _, _, rfl, h1, T.cT, T.nMany, tf_many _ _ _, _, _, rfl, ⟨by omega, by omega⟩, ?_⟩
    refine ⟨_, rfl, _, rfl, p, A.C, dx, _, _, rfl, h1, T.cT, T.nArms, tf_arms _ _ _, _, _, rfl, rfl, .inl ⟨by have := t.hn; omega, by have := t.hn; omega⟩, _, _, rfl, rfl, ?_⟩
    refine ⟨_, rfl, p, A.C, dx, _, _, rfl, h1, T.cT, T.nPl, tf_pl _ _ _, ?_⟩
    refine ⟨_, rfl, _, rfl, _, rfl, _, rfl, p, A.C, dx, _, _, rfl, h1, T.cT, T.nArms, tf_arms _ _ _, _, _, rfl, rfl, _, rfl, ?_⟩
    refine ⟨l, pl n, rfl, SqT.of h2, fun z => ?_, fun r hr0 => q _ r (Same.up hr0) upd_same⟩
    have z1 := z.1
    rw [pl_len, show ((i : Int) * (w : Int) + 1) = ((i * w + 1 : Nat) : Int) by push_cast; rfl, HT.sIx_nat] at z1
    omega
def spCm : Sp := fun vs H Q _ => ∃ i : Int, vs = [.int i] ∧ (0 ≤ i ∧ i ≤ 12) ∧ Q .non H
theorem ok_cm (T : Tx K mg A) : FnOk P w K mg base CX0 3 A.f_check_many A.d_check_many ["many"] spCm := by
  refine T.F_check_many.ok sc_check_many (fun vs H Q E h => ?_) (fun cdv B outer s H vs Q E hr h => ?_)
  · obtain ⟨i, rfl, _⟩ := h
    rfl
  · obtain ⟨i, rfl, hi, q⟩ := h
    obtain ⟨t, hg⟩ := cst T.c_MOST_PLACES
    refine ⟨_, pss_one (ps_if (pt_not (pt_val (pe_call (ok_ii T) hr (by rfl) T.m_is_integer_from T.F_is_integer_from.kp (b_ii T) .nil pass0
      (pa_cons (pv 0) (pa_cons pe_int (pa_cons (pe_glob (by rfl) hg (relI _ _)) pa_nil)))))) (pss_one ps_never) pss_nil), ?_⟩
    refine ⟨_, rfl, _, _, _, rfl, .inl ⟨i, rfl, _, rfl, ?_⟩⟩
    rw [decide_eq_true hi]
    exact iteF q
theorem b_cm (T : Tx K mg A) : L2.Binds K A.d_check_many ["many"] [] := T.F_check_many.binds fun _ _ _ _ _ _ us hl => match us, hl with | [_], _ => rfl
theorem rg_pl (n : Nat) : rgV 0 (n : Int) = pl n := by
  unfold rgV pl
  rw [show ((n : Int) - 0).toNat = n by omega]
  exact congrArg (fun f => (List.range n).map f) (funext fun i => by rw [Int.zero_add])
def spInit (C : Addr) : Sp := fun vs H Q _ => ∃ (p dx n w : Nat), vs = [.ref p, .int n, .int w] ∧ n ≤ 12 ∧ (1 ≤ w ∧ w ≤ 4) ∧ H p = some (.ins C dx []) ∧
  ∀ (H' : Hp), (∀ b o, H b = some o → b ≠ p → H' b = some o) → TreeAt C H' p n w → Q .non H'
theorem ok_init (T : Tx K mg A) : FnOk P w K mg base CX0 4 A.f_t___init__ A.d_t___init__ ["self", "many", "arms"] (spInit A.C) := by
  refine T.F_t___init__.ok sc_t___init__ (fun vs H Q E h => ?_) (fun cdv B outer s H vs Q E hr h => ?_)
  · obtain ⟨p, dx, n, w, rfl, _⟩ := h
    rfl
  · obtain ⟨p, dx, n, w, rfl, hn, hw, hp, q⟩ := h
    refine ⟨_, PSs.nox (pss_cons (ps_expr (pe_call (ok_ca T) hr (by rfl) T.m_check_arms T.F_check_arms.kp (b_ca T) .nil pass0 (pa_cons (pv 2) pa_nil)))
      (pss_cons (ps_expr (pe_call (ok_cm T) hr (by rfl) T.m_check_many T.F_check_many.kp (b_cm T) .nil pass0 (pa_cons (pv 1) pa_nil)))
      (pss_cons (ps_fld (pv 0) (pv 1) rfl) (pss_cons (ps_fld (pv 0) (pv 2) rfl)
      (pss_one (ps_fld (pv 0) (pe_tupRg rfl (by rfl) T.g_tuple (prg_1 (by rfl) T.g_range (pv 1))) rfl)))))), ?_⟩
    refine ⟨_, rfl, _, rfl, ⟨by omega, by omega⟩, _, rfl, _, rfl, ⟨by omega, by omega⟩, ?_⟩
    refine ⟨_, rfl, _, rfl, p, A.C, dx, _, rfl, hp, T.cT, T.nMany, (by show 0 < 1000; decide), ?_⟩
    refine ⟨_, rfl, _, rfl, p, A.C, dx, _, rfl, upd_same, T.cT, T.nArms, (by show 1 < 1000; decide), ?_⟩
    refine ⟨_, rfl, _, rfl, RgOk.of_le (by omega) (by omega) (by omega) (by omega), fun t ht => ?_⟩
    have npt : p ≠ t := fun z => by
      rw [z, upd_same] at ht
      cases ht
    refine ⟨_, rfl, p, A.C, dx, _, rfl, Eq.trans (upd_ne npt) upd_same, T.cT, T.nPl, (by simp only [putF, n1, if_false]; show 2 < 1000; decide), ?_⟩
    refine q _ (fun b o e hb => ?_) ⟨⟨dx, t, upd_same, ?_⟩, hn, hw⟩
    · have nbt : b ≠ t := ne_of_none (by rw [upd_ne hb, upd_ne hb]; exact e) ht
      rw [upd_ne hb, upd_ne nbt, upd_ne hb, upd_ne hb]
      exact e
    · rw [upd_ne npt.symm, upd_same, rg_pl]
theorem ok_iter (T : Tx K mg A) : FnIt P w K mg base 2 A.f_t___iter__ A.d_t___iter__ ["self"] (spIter K A.C "_places") := by
  refine fnIt_of T.F_t___iter__ sc_t___iter__ (fun cdv B outer s H vs Q hr h => ?_)
  obtain ⟨a, dx, fs, t, zs, rfl, ha, hf, ht, q⟩ := h
  refine ⟨_, pss_one (ps_ret (pe_callB call_iterT (by rfl) T.g_iter (by decide +kernel) (pa_cons (pe_fld (pv 0) rfl) pa_nil))), ?_⟩
  exact ⟨_, rfl, a, A.C, dx, _, _, rfl, ha, T.cT, T.nPl, hf, t, zs, rfl, ht, q⟩
def spLen (C : Addr) : Sp := fun vs H Q _ => ∃ (p n w : Nat), vs = [.ref p] ∧ TreeAt C H p n w ∧ Q (.int n) H
theorem ok_len (T : Tx K mg A) : FnOk P w K mg base CX0 2 A.f_t___len__ A.d_t___len__ ["self"] (spLen A.C) := by
  refine T.F_t___len__.ok sc_t___len__ (fun vs H Q E h => ?_) (fun cdv B outer s H vs Q E hr h => ?_)
  · obtain ⟨p, n, w, rfl, _⟩ := h
    rfl
  · obtain ⟨p, n, w, rfl, t, q⟩ := h
    obtain ⟨dx, l, h1, h2⟩ := t.ob
    refine ⟨_, pss_one (ps_ret (pe_callB call_len_seq (by rfl) T.g_len PySem.boot_len (pa_cons (pe_fld (pv 0) rfl) pa_nil))), ?_⟩
    refine ⟨_, rfl, p, A.C, dx, _, _, rfl, h1, T.cT, T.nPl, tf_pl _ _ _, l, _, rfl, .inr (SqT.of h2), ?_⟩
    rw [pl_len]
    exact q
theorem plAt {n i : Nat} {x : V} (h : (pl n)[i]? = some x) : i < n ∧ x = V.int (i : Nat) := by
  unfold pl at h
  rw [List.getElem?_map] at h
  by_cases hi : i < n
  · rw [List.getElem?_range hi] at h
    exact ⟨hi, (Option.some.inj h).symm⟩
  · rw [List.getElem?_eq_none (by rw [List.length_range]; omega)] at h
    cases h
theorem pl_at {n i : Nat} {x : V} (h : (pl n)[i]? = some x) : i < n ∧ x = V.int (i : Nat) := by
  unfold pl at h
  rw [List.getElem?_map] at h
  by_cases hi : i < n
  · rw [List.getElem?_range hi] at h
    exact ⟨hi, (Option.some.inj h).symm⟩
  · rw [List.getElem?_eq_none (by rw [List.length_range]; omega)] at h
    cases h
theorem q3 : ¬ (("stops" : Str) = "changes") := by decide +kernel
theorem q4 : ¬ (("stops" : Str) = "looks") := by decide +kernel
theorem tf_no (n w t : Nat) {m : Str} (h1 : ¬ m = "many") (h2 : ¬ m = "arms") (h3 : ¬ m = "_places") : (tf n w t).lookup m = none := by
  unfold tf
  rw [lookup_putF, if_neg h3, lookup_putF, if_neg h2, lookup_putF, if_neg h1]
  rfl
theorem viAt {l : List Nat} {i : Nat} {x : V} (h : (vi l)[i]? = some x) : ∃ hi : i < l.length, x = V.int (l[i] : Nat) := by
  unfold vi at h
  rw [List.getElem?_map] at h
  obtain ⟨a, ha, rfl⟩ := Option.map_eq_some_iff.mp h
  obtain ⟨hi, e⟩ := List.getElem?_eq_some_iff.mp ha
  exact ⟨hi, by rw [e]⟩
theorem vi_len (l : List Nat) : (vi l).length = l.length := by unfold vi; rw [List.length_map]
theorem But.free {d D : Addr} {H H' : Hp} {o : HO} (b : But d H H') (l : H' d = some o) (n : H' D = none) : H D = none := by
  cases e : H D with
  | none => rfl
  | some u =>
    by_cases h : D = d
    · rw [h, l] at n
      cases n
    · rw [b _ _ h e] at n
      cases n
theorem But.of {d : Addr} {H H' : Hp} (s : Same H H') : But d H H' := fun b o _ e => s b o e
theorem But.trans {d : Addr} {H H1 H2 : Hp} (a : But d H H1) (b : But d H1 H2) : But d H H2 := fun c o n e => b c o n (a c o n e)
theorem PrsAt.push {H : Hp} {x : V} {p : Int × Int} (hp : PrAt H x p) : ∀ {xs : List V} {ps : List (Int × Int)}, PrsAt H xs ps → PrsAt H (xs ++ [x]) (ps ++ [p])
  | _, _, .nil => .cons hp .nil
  | _, _, .cons a b => .cons a (PrsAt.push hp b)
end
end Tw

set_option Elab.async false
set_option linter.all false
set_option maxRecDepth 100000
set_option maxHeartbeats 2000000
namespace Tw
open PySem PySem.Spec PyProof.Rows L2
section
variable {P : Program} {w : World} {K : PySem.W.Frag} {mg : Str → Option Value} {base : Heap} {A : Ad}
open LamX (ExtN Tabs TabS)
/-! bounds as they must be: TreeAt TreeAt.same spInit spGi ok_gi ok_iter ok_len b_gi b_iter b_len spLen tf_pl tf_no pl_at plAt pl_len walk_tup walk_list walk_rev key_at key_atI keyAt keyAt_set vi viAt vi_len Acc Acc.start Acc.push Acc.same sizeLine_eq small1000 kids_eq kids_same kidsN kidsN_mem new_same PrsAt PrsAt.same prs_get call_listO ixN_nat k30:kidsN_mem kb_init But -/
structure LowI (w : Nat) (bs : List (Int × Int)) (m : Nat) (S : List Nat) (L : List Int) : Prop where
  len : L.length = bs.length
  lo : ∀ p, p < bs.length → bA bs p ≤ keyAt L p
  up : ∀ c, 0 < c → c < bs.length → ((c - 1) / w < m ∨ ((c - 1) / w = m ∧ c ∈ S)) → keyAt L ((c - 1) / w) + 1 ≤ keyAt L c
  ex : ∀ p, p < bs.length → keyAt L p = bA bs p ∨ (0 < p ∧ keyAt L p = keyAt L ((p - 1) / w) + 1)
  no : ∀ p, p < bs.length → (p = 0 ∨ ¬ ((p - 1) / w < m ∨ ((p - 1) / w = m ∧ p ∈ S))) → keyAt L p = bA bs p
theorem LowI.step {w m c : Nat} {bs : List (Int × Int)} {S : List Nat} {L : List Int} (h : LowI w bs m S L) (c0 : 0 < c) (cn : c < bs.length) (hc : (c - 1) / w = m) :
    LowI w bs m (S ++ [c]) (L.set c (if keyAt L m + 1 > keyAt L c then keyAt L m + 1 else keyAt L c)) := by
  have hmc : m < c := by have := par_ltB (w := w) c0; omega
  have hl := h.len
  have k : ∀ p, keyAt (L.set c (if keyAt L m + 1 > keyAt L c then keyAt L m + 1 else keyAt L c)) p = if p = c then (if keyAt L m + 1 > keyAt L c then keyAt L m + 1 else keyAt L c) else keyAt L p := fun p => keyAt_set (by omega)
  have hlc := h.lo c cn
  have hec := h.ex c cn
  rw [hc] at hec
  generalize hz : (if keyAt L m + 1 > keyAt L c then keyAt L m + 1 else keyAt L c) = z at k
  have hz2 : keyAt L m + 1 ≤ z ∧ keyAt L c ≤ z ∧ (z = keyAt L c ∨ z = keyAt L m + 1) := by
    rw [← hz]
    split <;> omega
  refine ⟨by rw [List.length_set]; exact hl, fun p hp => ?_, fun d d0 dn hd => ?_, fun p hp => ?_, fun p hp hn => ?_⟩
  · have := h.lo p hp
    rw [k]
    split
    · rename_i e
      subst e
      omega
    · exact this
  · have hpd := par_ltB (w := w) d0
    rw [k, k]
    by_cases e : d = c
    · subst e
      rw [if_neg (by omega), if_pos rfl, hc]
      omega
    · rw [if_neg e]
      by_cases e2 : (d - 1) / w = c
      · exfalso
        rcases hd with hd | hd <;> omega
      · rw [if_neg e2]
        refine h.up d d0 dn ?_
        rcases hd with hd | ⟨hd, hs⟩
        · exact .inl hd
        · rcases List.mem_append.mp hs with hs | hs
          · exact .inr ⟨hd, hs⟩
          · exact absurd (List.mem_singleton.mp hs) e
  · rw [k, k]
    by_cases e : p = c
    · subst e
      rw [if_pos rfl, hc, if_neg (by omega)]
      rcases hz2.2.2 with z1 | z1
      · rcases hec with z2 | z2
        · exact .inl (by omega)
        · exact .inr ⟨c0, by omega⟩
      · exact .inr ⟨c0, by omega⟩
    · rw [if_neg e]
      by_cases e2 : 0 < p ∧ (p - 1) / w = c
      · refine .inl (h.no p hp (.inr fun z => ?_))
        rcases z with z | z <;> omega
      · by_cases p0 : 0 < p
        · rw [if_neg (fun z => e2 ⟨p0, z⟩)]
          exact h.ex p hp
        · rcases h.ex p hp with z | z
          · exact .inl z
          · omega
  · rw [k]
    have e : p ≠ c := fun e => by
      subst e
      rcases hn with hn | hn
      · omega
      · exact hn (.inr ⟨hc, List.mem_append_right _ (List.mem_singleton.mpr rfl)⟩)
    rw [if_neg e]
    refine h.no p hp ?_
    rcases hn with hn | hn
    · exact .inl hn
    · exact .inr fun z => hn (by rcases z with z | z; exact .inl z; exact .inr ⟨z.1, List.mem_append_left _ z.2⟩)
theorem LowI.next {w m : Nat} {bs : List (Int × Int)} {S : List Nat} {L : List Int} (h : LowI w bs m S L) (hS : ∀ c, 0 < c → c < bs.length → (c - 1) / w = m → c ∈ S) : LowI w bs (m + 1) [] L :=
  ⟨h.len, h.lo, fun c c0 cn hc => h.up c c0 cn (by
    rcases hc with hc | hc
    · by_cases e : (c - 1) / w = m
      · exact .inr ⟨e, hS c c0 cn e⟩
      · exact .inl (by omega)
    · exact nomatch hc.2), h.ex, fun p hp hn => h.no p hp (by
    rcases hn with hn | hn
    · exact .inl hn
    · exact .inr fun z => hn (.inl (by rcases z with z | z <;> omega)))⟩
structure GrI (w : Nat) (bs : List (Int × Int)) (m : Nat) (S : List Nat) (G : List Int) : Prop where
  len : G.length = bs.length
  hi : ∀ p, p < bs.length → keyAt G p ≤ bB bs p
  up : ∀ c, 0 < c → c < bs.length → (m ≤ (c - 1) / w ∨ ((c - 1) / w + 1 = m ∧ c ∈ S)) → keyAt G ((c - 1) / w) ≤ keyAt G c - 1
  ex : ∀ p, p < bs.length → keyAt G p = bB bs p ∨ ∃ c, 0 < c ∧ c < bs.length ∧ (c - 1) / w = p ∧ keyAt G p = keyAt G c - 1
  no : ∀ p, p < bs.length → p + 1 < m → keyAt G p = bB bs p
theorem GrI.step {w m c : Nat} {bs : List (Int × Int)} {S : List Nat} {G : List Int} (h : GrI w bs (m + 1) S G) (c0 : 0 < c) (cn : c < bs.length) (hc : (c - 1) / w = m) :
    GrI w bs (m + 1) (S ++ [c]) (G.set m (if keyAt G c - 1 < keyAt G m then keyAt G c - 1 else keyAt G m)) := by
  have hmc : m < c := by have := par_ltB (w := w) c0; omega
  have hl := h.len
  have k : ∀ p, keyAt (G.set m (if keyAt G c - 1 < keyAt G m then keyAt G c - 1 else keyAt G m)) p = if p = m then (if keyAt G c - 1 < keyAt G m then keyAt G c - 1 else keyAt G m) else keyAt G p := fun p => keyAt_set (by omega)
  have hlc := h.hi m (by omega)
  have hec := h.ex m (by omega)
  generalize hz : (if keyAt G c - 1 < keyAt G m then keyAt G c - 1 else keyAt G m) = z at k
  have hz2 : z ≤ keyAt G c - 1 ∧ z ≤ keyAt G m ∧ (z = keyAt G m ∨ z = keyAt G c - 1) := by
    rw [← hz]
    split <;> omega
  refine ⟨by rw [List.length_set]; exact hl, fun p hp => ?_, fun d d0 dn hd => ?_, fun p hp => ?_, fun p hp hn => ?_⟩
  · have := h.hi p hp
    rw [k]
    split
    · rename_i e
      subst e
      omega
    · exact this
  · have hpd := par_ltB (w := w) d0
    have hdm : d ≠ m := by rcases hd with hd | hd <;> omega
    rw [k, k, if_neg hdm]
    by_cases e : (d - 1) / w = m
    · rw [if_pos e]
      rcases hd with hd | ⟨_, hs⟩
      · omega
      · rcases List.mem_append.mp hs with hs | hs
        · have := h.up d d0 dn (.inr ⟨by omega, hs⟩)
          rw [e] at this
          omega
        · rw [List.mem_singleton.mp hs]
          exact hz2.1
    · rw [if_neg e]
      refine h.up d d0 dn ?_
      rcases hd with hd | hd
      · exact .inl hd
      · omega
  · rw [k]
    by_cases e : p = m
    · subst e
      rw [if_pos rfl]
      rcases hz2.2.2 with z1 | z1
      · rcases hec with z2 | ⟨d, d0, dn, de, z2⟩
        · exact .inl (by omega)
        · have := par_ltB (w := w) d0
          exact .inr ⟨d, d0, dn, de, by rw [k, if_neg (by omega)]; omega⟩
      · exact .inr ⟨c, c0, cn, hc, by rw [k, if_neg (by omega)]; omega⟩
    · rw [if_neg e]
      rcases h.ex p hp with z2 | ⟨d, d0, dn, de, z2⟩
      · exact .inl z2
      · by_cases ed : d = m
        · have := par_ltB (w := w) d0
          exact .inl (h.no p hp (by omega))
        · exact .inr ⟨d, d0, dn, de, by rw [k, if_neg ed]; exact z2⟩
  · rw [k, if_neg (by omega)]
    exact h.no p hp hn
theorem GrI.next {w m : Nat} {bs : List (Int × Int)} {S : List Nat} {G : List Int} (h : GrI w bs (m + 1) S G) (hS : ∀ c, 0 < c → c < bs.length → (c - 1) / w = m → c ∈ S) : GrI w bs m [] G :=
  ⟨h.len, h.hi, fun c c0 cn hc => h.up c c0 cn (by
    rcases hc with hc | hc
    · by_cases e : (c - 1) / w = m
      · exact .inr ⟨by omega, hS c c0 cn e⟩
      · exact .inl (by omega)
    · exact nomatch hc.2), h.ex, fun p hp hn => h.no p hp (by omega)⟩
theorem told_of {w : Nat} {bs : List (Int × Int)} {L G : List Int} (a : LowI w bs bs.length [] L) (b : GrI w bs 0 [] G) : Told w bs (keyAt L) (keyAt G) :=
  ⟨a.lo, fun c c0 cn => a.up c c0 cn (.inl (by have := par_ltB (w := w) c0; omega)), a.ex, b.hi, fun c c0 cn => b.up c c0 cn (.inl (Nat.zero_le _)), b.ex⟩
theorem map_at1 (bs : List (Int × Int)) (p : Nat) : keyAt (bs.map (·.1)) p = bA bs p := by
  unfold keyAt bA
  rw [List.getD_eq_getElem?_getD, List.getD_eq_getElem?_getD, List.getElem?_map]
  cases bs[p]? <;> rfl
theorem map_at2 (bs : List (Int × Int)) (p : Nat) : keyAt (bs.map (·.2)) p = bB bs p := by
  unfold keyAt bB
  rw [List.getD_eq_getElem?_getD, List.getD_eq_getElem?_getD, List.getElem?_map]
  cases bs[p]? <;> rfl
theorem low_start (w : Nat) (bs : List (Int × Int)) : LowI w bs 0 [] (bs.map (·.1)) :=
  ⟨List.length_map _, fun p _ => by rw [map_at1]; exact Int.le_refl _, fun c c0 cn h => absurd h (fun z => z.elim (fun z => Nat.not_lt_zero _ z) (fun z => nomatch z.2)), fun p _ => .inl (map_at1 bs p), fun p _ _ => map_at1 bs p⟩
theorem gr_start (w : Nat) (bs : List (Int × Int)) : GrI w bs bs.length [] (bs.map (·.2)) :=
  ⟨List.length_map _, fun p _ => by rw [map_at2]; exact Int.le_refl _, fun c c0 cn h => absurd h (fun z => z.elim (fun z => by have := par_ltB (w := w) c0; omega) (fun z => nomatch z.2)), fun p _ => .inl (map_at2 bs p), fun p _ _ => map_at2 bs p⟩
def spTb (A : Ad) : Sp := fun vs H Q _ => ∃ (r w : Nat) (xs : List V) (bs : List (Int × Int)), vs = [.ref r, .int w] ∧ (1 ≤ w ∧ w ≤ 4) ∧ H r = some (.lst xs) ∧ PrsAt H xs bs ∧ bs.length ≤ 12 ∧ BOk bs ∧
  ∀ (H' : Hp) (q : Addr) (ys : List V) (L G : List Int), Same H H' → H q = none → H' q = some (.lst ys) → PrsAt H' ys (L.zip G) → L.length = bs.length → G.length = bs.length → Told w bs (keyAt L) (keyAt G) → Q (.ref q) H'
theorem prs_zip {H : Hp} : ∀ {ts : List Addr} {L G : List Int}, Paired (fun (t : Addr) (q : V × V) => H t = some (.tup [q.1, q.2])) ts ((L.map V.int).zip (G.map V.int)) → PrsAt H (ts.map V.ref) (L.zip G)
  | [], [], _, _ => .nil
  | [], _ :: _, [], _ => .nil
  | t :: ts, a :: L, b :: G, h => by
    cases h with
    | cons x y => exact .cons ⟨t, rfl, x⟩ (prs_zip y)
theorem ok_tb (T : Tx K mg A) : FnOk P w K mg base CX0 9 A.f_told_bounds A.d_told_bounds ["bounds", "arms"] (spTb A) := by
  obtain ⟨mi, ki⟩ := kb_init T
  refine T.F_told_bounds.ok sc_told_bounds (fun vs H Q E h => ?_) (fun cdv B outer s H vs Q E hr h => ?_)
  · obtain ⟨r, w, xs, bs, rfl, _⟩ := h
    rfl
  · obtain ⟨r, w1, xs, bs, rfl, hw, er, hps, hl, hok, q⟩ := h
    have nd := sc_told_bounds.nd
    have hxl := Paired.length hps
    refine ⟨_, PSs.nox (pss_cons (ps_expr (pe_call (ok_cb T) (hr.mono (by decide)) (by rfl) T.m_check_bounds T.F_check_bounds.kp (b_cb T) .nil pass0 (pa_cons (pv 0) (pa_cons (pv 1) pa_nil))))
      (C8.pss_cut (ps_set (i := 2) nd rfl (Or.inl rfl) (pe_makeK T.mkC (ok_init T) (hr.mono (by decide)) (by rfl) T.mC ki pass0 (pa_cons (pe_callB (r := rLn K) call_len_seq (by rfl) T.g_len PySem.boot_len (pa_cons (pv 0) pa_nil)) pa_nil) (pk_cons (pv 1) pk_nil)))
      (C8.pss_cut (ps_setLc (i := 3) (own := [("pair", 7)]) (g := gName 7) (tt := tYes) rfl nd rfl rfl (sw_true rfl rfl rfl (by decide +kernel)) (pi_list (pv 0)) (blkOk_by (own := [("pair", 7)]) (N := ["bounds", "arms", "tree", "least", "greatest", "place", "child", "pair"]) (sc := defScope s_told_bounds) (by decide +kernel)) (fun _ _ _ _ _ => pg_name (i := 7) nd rfl (Or.inl rfl)) (fun _ _ _ _ _ => pts_nil) (fun _ _ _ _ _ => (pe_ix (r := rIxT K) ix_tup (pv 7) pe_int (fun _ _ => rfl))))
      (C8.pss_cut (ps_setLc (i := 4) (own := [("pair", 7)]) (g := gName 7) (tt := tYes) rfl nd rfl rfl (sw_true rfl rfl rfl (by decide +kernel)) (pi_list (pv 0)) (blkOk_by (own := [("pair", 7)]) (N := ["bounds", "arms", "tree", "least", "greatest", "place", "child", "pair"]) (sc := defScope s_told_bounds) (by decide +kernel)) (fun _ _ _ _ _ => pg_name (i := 7) nd rfl (Or.inl rfl)) (fun _ _ _ _ _ => pts_nil) (fun _ _ _ _ _ => (pe_ix (r := rIxT K) ix_tup (pv 7) pe_int (fun _ _ => rfl))))
      (C8.pss_cut (ps_for PassesOwn.never rfl (pi_own T.D_t___iter__ (ok_iter T) (hr.mono (by decide)) (b_iter T) (pv 2)) (pg_name (i := 5) nd rfl (Or.inl rfl)) (pss_one (ps_for PassesOwn.never rfl (pi_tup (pe_gi T.D_t___getitem__ (ok_gi T) (hr.mono (by decide)) (b_gi T) pass0 (pv 2) (pv 5))) (pg_name (i := 6) nd rfl (Or.inl rfl)) (pss_one (ps_asg (pe_callB (call_max2 rfl) (by rfl) T.g_max (by decide +kernel) (pa_cons (pe_ix (r := rIxL K) ix_list (pv 3) (pv 6) (fun _ _ => rfl)) (pa_cons (pe_op op_add (pe_ix (r := rIxL K) ix_list (pv 3) (pv 5) (fun _ _ => rfl)) pe_int) pa_nil))) (pg_sub (pv 3) (pv 6) set_list))))))
      (C8.pss_cut (ps_for PassesOwn.never rfl (pi_reversed (by rfl) T.g_reversed (pa_cons (pe_callTy (call_listO T.D_t___iter__ (ok_iter T) (b_iter T) T.D_t___len__ (ok_len T) (b_len T) (hr.mono (by decide))) (by rfl) T.g_list (by decide +kernel) (pa_cons (pv 2) pa_nil)) pa_nil)) (pg_name (i := 5) nd rfl (Or.inl rfl)) (pss_one (ps_for PassesOwn.never rfl (pi_tup (pe_gi T.D_t___getitem__ (ok_gi T) (hr.mono (by decide)) (b_gi T) pass0 (pv 2) (pv 5))) (pg_name (i := 6) nd rfl (Or.inl rfl)) (pss_one (ps_asg (pe_callB (call_min2 rfl) (by rfl) T.g_min (by decide +kernel) (pa_cons (pe_ix (r := rIxL K) ix_list (pv 4) (pv 5) (fun _ _ => rfl)) (pa_cons (pe_op op_sub (pe_ix (r := rIxL K) ix_list (pv 4) (pv 6) (fun _ _ => rfl)) pe_int) pa_nil))) (pg_sub (pv 4) (pv 5) set_list))))))
      (pss_one (ps_ret (Lz.pe_listZip rfl (pa_cons (pv 3) (pa_cons (pv 4) pa_nil)) (by rfl) T.g_list (by decide +kernel) (by rfl) T.g_zip))))))))), ?_⟩
    refine ⟨_, rfl, _, rfl, r, w1, xs, bs, rfl, hw, er, hps, hl, hok, fun H1 s1 => ?_⟩
    have er1 := s1 _ _ er
    refine ⟨fun σ' H' => ∃ x : Addr, σ' = [some (.ref r), some (.int w1), some (.ref x), none, none, none, none, none] ∧ Same H1 H' ∧ TreeAt A.C H' x bs.length w1, ?_, ?_⟩
    · refine ⟨_, rfl, r, _, rfl, .inl (SqL.of er1), _, rfl, rfl, rfl, fun x dx nx ndx nex => ?_⟩
      rw [hxl]
      exact ⟨x, dx, bs.length, w1, rfl, hl, hw, upd_same, fun H2 k2 t2 => ⟨rfl, x, rfl, new_same nx ndx k2, t2⟩⟩
    rintro σ' H2 ⟨x, rfl, s2, t2⟩
    have er2 := s2 _ _ er1
    have hp2 := hps.same (s1.trans s2)
    obtain ⟨dx, l, g1, g2⟩ := id t2.ob
    refine ⟨fun σ' H' => ∃ q3 : Addr, σ' = [some (.ref r), some (.int w1), some (.ref x), some (.ref q3), none, none, none, none] ∧ Acc H2 q3 ((bs.map (·.1)).map V.int) H', ?_, ?_⟩
    · refine ⟨_, rfl, r, rfl, ⟨_, SqL.of er2⟩, fun D nD => ?_⟩
      refine lc_it (walk_list (xs := xs)) (fun j H' => Acc H2 D ((((bs.map (·.1)).take j)).map V.int) H') (Acc.start nD) (fun j H' _ ac => SqL.of (ac.s _ _ er2)) ?_ ?_
      · rintro j y H5 H6 hj ac ⟨rfl, hy⟩
        obtain ⟨p, ep, t, rfl, et⟩ := prs_get hp2 hy
        obtain ⟨hj2, ep⟩ := List.getElem?_eq_some_iff.mp ep
        have hj3 : j < (bs.map (·.1)).length := by rw [List.length_map]; exact hj2
        refine ⟨rfl, iteT (B := Acc H2 D ((((bs.map (·.1)).take (j + 1))).map V.int) H6) ?_⟩
        rw [List.take_succ_eq_append_getElem hj3, List.getElem_map, ep, List.map_append]
        refine ⟨_, rfl, t, _, _, _, rfl, rfl, SqT.of (ac.s _ _ et), rfl, _, ac.a, by rw [List.length_map, List.length_take, List.length_map, sizeLine_eq]; omega, ac.push⟩
      · intro G2 ac
        rw [hxl, List.take_of_length_le (by rw [List.length_map]; exact Nat.le_refl _)] at ac
        exact ⟨D, rfl, ac⟩
    rintro σ' H3 ⟨q3, rfl, ac3⟩
    have er3 := ac3.s _ _ er2
    have hp3 := hp2.same ac3.s
    have e33 := ac3.a
    refine ⟨fun σ' H' => ∃ q4 : Addr, σ' = [some (.ref r), some (.int w1), some (.ref x), some (.ref q3), some (.ref q4), none, none, none] ∧ Acc H3 q4 ((bs.map (·.2)).map V.int) H', ?_, ?_⟩
    · refine ⟨_, rfl, r, rfl, ⟨_, SqL.of er3⟩, fun D nD => ?_⟩
      refine lc_it (walk_list (xs := xs)) (fun j H' => Acc H3 D ((((bs.map (·.2)).take j)).map V.int) H') (Acc.start nD) (fun j H' _ ac => SqL.of (ac.s _ _ er3)) ?_ ?_
      · rintro j y H5 H6 hj ac ⟨rfl, hy⟩
        obtain ⟨p, ep, t, rfl, et⟩ := prs_get hp3 hy
        obtain ⟨hj2, ep⟩ := List.getElem?_eq_some_iff.mp ep
        have hj3 : j < (bs.map (·.2)).length := by rw [List.length_map]; exact hj2
        refine ⟨rfl, iteT (B := Acc H3 D ((((bs.map (·.2)).take (j + 1))).map V.int) H6) ?_⟩
        rw [List.take_succ_eq_append_getElem hj3, List.getElem_map, ep, List.map_append]
        refine ⟨_, rfl, t, _, _, _, rfl, rfl, SqT.of (ac.s _ _ et), rfl, _, ac.a, by rw [List.length_map, List.length_take, List.length_map, sizeLine_eq]; omega, ac.push⟩
      · intro G2 ac
        rw [hxl, List.take_of_length_le (by rw [List.length_map]; exact Nat.le_refl _)] at ac
        exact ⟨D, rfl, ac⟩
    rintro σ' H4 ⟨q4, rfl, ac4⟩
    have n3 := ac3.n
    have n4 := ac4.n
    have e43 := ac4.s _ _ e33
    have e44 := ac4.a
    have h34 : q3 ≠ q4 := fun z => by rw [z, n4] at e33; cases e33
    have s24 : Same H2 H4 := ac3.s.trans ac4.s
    have n42 : H2 q4 = none := ac3.s.free n4
    have hkn : ∀ i, (kidsN bs.length w1 i).length ≤ 12 := fun i => by
      unfold kidsN
      rw [List.length_take, List.length_drop, List.length_range]
      omega
    refine ⟨fun σ' H' => ∃ (x5 x6 : Option V) (L : List Int), σ' = [some (.ref r), some (.int w1), some (.ref x), some (.ref q3), some (.ref q4), x5, x6, none] ∧ Same H2 H' ∧ H' q3 = some (.lst (L.map V.int)) ∧ H' q4 = some (.lst ((bs.map (·.2)).map V.int)) ∧ LowI w1 bs bs.length [] L, ?_, ?_⟩
    · refine ⟨_, rfl, x, dx, _, l, _, rfl, s24 _ _ g1, tf_pl _ _ _, SqT.of (s24 _ _ g2), ?_⟩
      refine for_it (walk_tup (xs := pl bs.length)) (fun m σ' H' => ∃ (x5 x6 : Option V) (L : List Int), σ' = [some (.ref r), some (.int w1), some (.ref x), some (.ref q3), some (.ref q4), x5, x6, none] ∧ Same H2 H' ∧ H' q3 = some (.lst (L.map V.int)) ∧ H' q4 = some (.lst ((bs.map (·.2)).map V.int)) ∧ LowI w1 bs m [] L)
        ⟨none, none, _, rfl, s24, e43, e44, low_start w1 bs⟩ (fun m σ' H' _ ⟨_, _, _, _, s, _⟩ => SqT.of (s _ _ g2)) ?_ (fun σ' H' h => by
          rw [pl_len] at h
          exact h)
      rintro m y σ' Ho H5 hm ⟨x5, x6, L, rfl, s5, e53, e54, hL⟩ ⟨rfl, hy⟩
      obtain ⟨hm2, rfl⟩ := plAt hy
      refine ⟨_, rfl, _, rfl, x, dx, _, rfl, s5 _ _ g1, x, bs.length, w1, m, rfl, t2.same s5, hm2, fun H6 q6 s6 e6 => ?_⟩
      rw [kids_eq] at e6
      have n3b : H2 q3 = none := n3
      refine ⟨q6, rfl, ⟨_, SqT.of e6⟩, for_it (walk_tup (xs := vi (kidsN bs.length w1 m))) (fun j σ' H' => ∃ (x6 : Option V) (L : List Int), σ' = [some (.ref r), some (.int w1), some (.ref x), some (.ref q3), some (.ref q4), some (.int (m : Nat)), x6, none] ∧ (Same H2 H' ∧ H' q6 = some (.tup (vi (kidsN bs.length w1 m)))) ∧ H' q3 = some (.lst (L.map V.int)) ∧ H' q4 = some (.lst ((bs.map (·.2)).map V.int)) ∧ LowI w1 bs m ((kidsN bs.length w1 m).take j) L)
        ⟨x6, L, rfl, ⟨s5.trans s6, e6⟩, s6 _ _ e53, s6 _ _ e54, hL⟩ (fun j σ' H' _ ⟨_, _, _, s, _⟩ => SqT.of s.2) ?_ ?_⟩
      · rintro j y σ' Hp7 H7 hj ⟨x6, L, rfl, ⟨s7, e76⟩, e73, e74, hL⟩ ⟨rfl, hy⟩
        obtain ⟨hj2, rfl⟩ := viAt hy
        obtain ⟨c0, cn, ce⟩ := (kidsN_mem hw hl hm2).mp (List.getElem_mem hj2)
        have hst := hL.step c0 cn ce
        rw [← List.take_succ_eq_append_getElem hj2] at hst
        generalize (kidsN bs.length w1 m)[j] = c at *
        have hLl := hL.len
        refine ⟨_, rfl, _, rfl, q3, _, _, _, rfl, rfl, SqL.of e73, key_atI (by omega), ?_⟩
        refine ⟨_, rfl, _, rfl, q3, _, _, _, rfl, rfl, SqL.of e73, key_atI (by omega), _, _, rfl, rfl, ?_⟩
        refine ⟨_, _, rfl, ?_⟩
        refine ⟨_, rfl, _, rfl, q3, _, _, c, rfl, rfl, e73, ixN_nat (by rw [List.length_map]; omega), ?_⟩
        refine ⟨_, _, rfl, ⟨fun b o e => ?_, ?_⟩, ?_, ?_, hst⟩
        · rw [upd_ne (ne_of_none e n3b)]
          exact s7 _ _ e
        · rw [upd_ne (ne_of e76 e73 (by intro z; cases z))]
          exact e76
        · rw [upd_same, List.map_set]
        · rw [upd_ne h34.symm]
          exact e74
      · rintro σ' H7 ⟨x6, L, rfl, ⟨s7, e76⟩, e73, e74, hL⟩
        rw [vi_len, List.take_length] at hL
        exact ⟨_, _, L, rfl, s7, e73, e74, hL.next fun c c0 cn ce => (kidsN_mem hw hl hm2).mpr ⟨c0, cn, ce⟩⟩
    rintro σ' H5 ⟨x5, x6, L, rfl, s5, e53, e54, hL⟩
    refine ⟨fun σ' H' => ∃ (x5 x6 : Option V) (G : List Int), σ' = [some (.ref r), some (.int w1), some (.ref x), some (.ref q3), some (.ref q4), x5, x6, none] ∧ Same H2 H' ∧ H' q3 = some (.lst (L.map V.int)) ∧ H' q4 = some (.lst (G.map V.int)) ∧ GrI w1 bs 0 [] G, ?_, ?_⟩
    · have t5 := t2.same s5
      refine ⟨_, rfl, x, dx, _, l, pl bs.length, rfl, s5 _ _ g1, tf_pl _ _ _, SqT.of (s5 _ _ g2), by rw [pl_len]; omega, ⟨x, bs.length, w1, rfl, t5, bs.length, rfl, by omega, rfl⟩, fun c nc => ?_⟩
      have s6 := Same.up (o := .lst (pl bs.length)) nc
      have ec : upd H5 c (.lst (pl bs.length)) c = some (.lst (pl bs.length)) := upd_same
      have h4c : q4 ≠ c := ne_of_none e54 nc
      generalize upd H5 c (.lst (pl bs.length)) = H6 at s6 ec
      refine ⟨c, _, rfl, SqL.of ec, ?_⟩
      refine for_it (walk_rev (xs := pl bs.length)) (fun j σ' H' => ∃ (x5 x6 : Option V) (G : List Int), σ' = [some (.ref r), some (.int w1), some (.ref x), some (.ref q3), some (.ref q4), x5, x6, none] ∧ (Same H2 H' ∧ H' c = some (.lst (pl bs.length))) ∧ H' q3 = some (.lst (L.map V.int)) ∧ H' q4 = some (.lst (G.map V.int)) ∧ GrI w1 bs (bs.length - j) [] G)
        ⟨x5, x6, _, rfl, ⟨s5.trans s6, ec⟩, s6 _ _ e53, s6 _ _ e54, gr_start w1 bs⟩ (fun m σ' H' _ ⟨_, _, _, _, s, _⟩ => SqL.of s.2) ?_ (fun σ' H' h => by
          rw [pl_len, Nat.sub_self] at h
          obtain ⟨x5, x6, G, e, s, e1, e2, hG⟩ := h
          exact ⟨x5, x6, G, e, s.1, e1, e2, hG⟩)
      rintro j y σ' Ho H7 hj ⟨x5, x6, G, rfl, ⟨s7, e7c⟩, e73, e74, hG⟩ ⟨rfl, hy⟩
      rw [pl_len] at hj hy
      obtain ⟨_, rfl⟩ := pl_at hy
      have hii : bs.length - j = (bs.length - 1 - j) + 1 := by omega
      have hm2 : bs.length - 1 - j < bs.length := by omega
      have hi3 : bs.length - (j + 1) = bs.length - 1 - j := by omega
      rw [hii] at hG
      rw [hi3]
      generalize bs.length - 1 - j = m at *
      refine ⟨_, rfl, _, rfl, x, dx, _, rfl, s7 _ _ g1, x, bs.length, w1, m, rfl, t2.same s7, hm2, fun H8 q8 s8 e8 => ?_⟩
      rw [kids_eq] at e8
      refine ⟨q8, rfl, ⟨_, SqT.of e8⟩, for_it (walk_tup (xs := vi (kidsN bs.length w1 m))) (fun j σ' H' => ∃ (x6 : Option V) (G : List Int), σ' = [some (.ref r), some (.int w1), some (.ref x), some (.ref q3), some (.ref q4), some (.int (m : Nat)), x6, none] ∧ (Same H2 H' ∧ H' c = some (.lst (pl bs.length)) ∧ H' q8 = some (.tup (vi (kidsN bs.length w1 m)))) ∧ H' q3 = some (.lst (L.map V.int)) ∧ H' q4 = some (.lst (G.map V.int)) ∧ GrI w1 bs (m + 1) ((kidsN bs.length w1 m).take j) G)
        ⟨x6, G, rfl, ⟨s7.trans s8, s8 _ _ e7c, e8⟩, s8 _ _ e73, s8 _ _ e74, hG⟩ (fun j σ' H' _ ⟨_, _, _, s, _⟩ => SqT.of s.2.2) ?_ ?_⟩
      · rintro j y σ' Hp9 H9 hj ⟨x6, G, rfl, ⟨s9, e9c, e98⟩, e93, e94, hG⟩ ⟨rfl, hy⟩
        obtain ⟨hj2, rfl⟩ := viAt hy
        obtain ⟨c0, cn, ce⟩ := (kidsN_mem hw hl hm2).mp (List.getElem_mem hj2)
        have hst := hG.step c0 cn ce
        rw [← List.take_succ_eq_append_getElem hj2] at hst
        generalize (kidsN bs.length w1 m)[j] = d at *
        have hGl := hG.len
        refine ⟨_, rfl, _, rfl, q4, _, _, _, rfl, rfl, SqL.of e94, key_atI (by omega), ?_⟩
        refine ⟨_, rfl, _, rfl, q4, _, _, _, rfl, rfl, SqL.of e94, key_atI (by omega), _, _, rfl, rfl, ?_⟩
        refine ⟨_, _, rfl, ?_⟩
        refine ⟨_, rfl, _, rfl, q4, _, _, m, rfl, rfl, e94, ixN_nat (by rw [List.length_map]; omega), ?_⟩
        refine ⟨_, _, rfl, ⟨fun b o e => ?_, ?_, ?_⟩, ?_, ?_, hst⟩
        · rw [upd_ne (ne_of_none e n42)]
          exact s9 _ _ e
        · rw [upd_ne h4c.symm]
          exact e9c
        · rw [upd_ne (ne_of e98 e94 (by intro z; cases z))]
          exact e98
        · rw [upd_ne h34]
          exact e93
        · rw [upd_same, List.map_set]
      · rintro σ' H9 ⟨x6, G, rfl, ⟨s9, e9c, e98⟩, e93, e94, hG⟩
        rw [vi_len, List.take_length] at hG
        exact ⟨_, _, G, rfl, ⟨s9, e9c⟩, e93, e94, hG.next fun c c0 cn ce => (kidsN_mem hw hl hm2).mpr ⟨c0, cn, ce⟩⟩
    rintro σ' H6 ⟨x5, x6, G, rfl, s6, e63, e64, hG⟩
    have hLl := hL.len
    have hGl := hG.len
    refine ⟨_, rfl, _, rfl, q3, q4, _, _, rfl, SqL.of e63, SqL.of e64, by rw [List.length_map, List.length_map]; omega, fun H7 p ts s7 np nts npt ep rz => ?_⟩
    have s07 : Same H H6 := s1.trans (s2.trans s6)
    exact q H7 p _ L G (s07.trans s7) (s07.free np) ep (prs_zip rz) hLl hGl (told_of hL hG)
theorem kb_tb (T : Tx K mg A) : ∃ mv : List Value, KBn K A.d_told_bounds ["bounds", "arms"] 1 ["arms"] (fun us ws => us ++ (mv ++ ws)) (fun vs zs => vs ++ zs) := by
  obtain ⟨mv, h⟩ := T.F_told_bounds.kbinds0 (ps := ["bounds", "arms"]) 1 ["arms"] [] (fun us mv ws => us ++ (mv ++ ws)) (by simp) (by simp) (fun r1 r2 r3 => r1.append (r2.append r3))
    (fun D doc pm an cdv ct us mv ws h1 h2 h3 => by
      match us, mv, ws, h1, h2, h3 with
      | [a], [], [c], _, _, _ => rfl)
  exact ⟨mv, h⟩

end
end Tw

set_option Elab.async false
set_option linter.all false
set_option maxRecDepth 100000
set_option maxHeartbeats 2000000
namespace Tw
open PySem PySem.Spec PyProof.Rows L2
section
variable {P : Program} {w : World} {K : PySem.W.Frag} {mg : Str → Option Value} {base : Heap} {A : Ad}
open LamX (ExtN Tabs TabS)
/-- a list or a tuple -/
def Sq (H : Hp) (a : Addr) (xs : List V) : Prop := H a = some (.lst xs) ∨ H a = some (.tup xs)
theorem q1 : ¬ (("row" : Str) = "stops") := by decide +kernel
theorem tabs_upd {T : List (Addr × Str)} {H : Hp} {D : Addr} {xs : List V} {o : HO} (t : Tabs T H) (h : H D = some (.lst xs)) : Tabs T (upd H D o) := fun p hp => by
  obtain ⟨ps, h1, h2, h3⟩ := t p hp
  refine ⟨ps, by rw [upd_ne (ne_of h1 h (by intro z; cases z))]; exact h1, h2, fun pos cv hc => ?_⟩
  obtain ⟨c, e1, e2⟩ := h3 pos cv hc
  exact ⟨c, e1, by rw [upd_ne (ne_of e2 h (by intro z; unfold LamX.CodeO at z; cases z))]; exact e2⟩
theorem vi_at {l : List Nat} {i : Nat} {x : V} (h : (vi l)[i]? = some x) : i < l.length ∧ x = V.int ((l.getD i 0 : Nat) : Int) := by
  unfold vi at h
  rw [List.getElem?_map] at h
  cases e : l[i]? with
  | none => rw [e] at h; cases h
  | some a =>
    rw [e] at h
    have hi := (List.getElem?_eq_some_iff.mp e).1
    refine ⟨hi, ?_⟩
    rw [List.getD_eq_getElem?_getD, e]
    exact (Option.some.inj h).symm
theorem Sq.ext {H H' : Hp} {a : Addr} {xs : List V} (h : Sq H a xs) (e : ExtN H H') : Sq H' a xs := h.elim (fun x => .inl (e _ _ x (fun ps z => nomatch z))) fun x => .inr (e _ _ x (fun ps z => nomatch z))
theorem Sq.same {H H' : Hp} {a : Addr} {xs : List V} (h : Sq H a xs) (s : Same H H') : Sq H' a xs := h.elim (fun e => .inl (s _ _ e)) fun e => .inr (s _ _ e)
theorem TreeAt.ext {C : Addr} {H H' : Hp} {p n w : Nat} (h : TreeAt C H p n w) (e : ExtN H H') : TreeAt C H' p n w :=
  ⟨let ⟨dx, t, a, b⟩ := h.ob; ⟨dx, t, e _ _ a (fun ps z => nomatch z), e _ _ b (fun ps z => nomatch z)⟩, h.hn, h.hw⟩
end
end Tw

set_option Elab.async false
set_option linter.all false
set_option maxRecDepth 100000
set_option maxHeartbeats 2000000
namespace Tw
open PySem PySem.Spec PyProof.Rows L2
section
variable {P : Program} {w : World} {K : PySem.W.Frag} {mg : Str → Option Value} {base : Heap} {A : Ad}
open LamX (ExtN Tabs TabS)
/-! crowds, the most urgent first: PrsAt PrsAt.same prs_get Acc Acc.start Acc.push Acc.same sizeLine_eq walk_enum keyAt vi vi_len viAt Sq TT extN_of tabs_upd ixN_nat -/
theorem zip_at {L G : List Int} {j : Nat} {p : Int × Int} (h : (L.zip G)[j]? = some p) : j < L.length ∧ j < G.length ∧ p = (keyAt L j, keyAt G j) := by
  obtain ⟨hj, e⟩ := List.getElem?_eq_some_iff.mp h
  rw [List.length_zip] at hj
  refine ⟨by omega, by omega, ?_⟩
  rw [← e, List.getElem_zip]
  unfold keyAt
  rw [List.getD_eq_getElem?_getD, List.getD_eq_getElem?_getD, List.getElem?_eq_getElem (by omega), List.getElem?_eq_getElem (by omega)]
  rfl
abbrev insB (l g : Nat → Int) (a b : Int) (p : Nat) : Bool := decide (l p ≥ a) && decide (g p ≤ b)
def spPin : Sp := fun vs H Q _ => ∃ (t : Addr) (a b : Int) (xs : List V) (L G : List Int), vs = [.ref t, .int a, .int b] ∧ H t = some (.lst xs) ∧ PrsAt H xs (L.zip G) ∧ L.length = G.length ∧ L.length ≤ 12 ∧
  ∀ (H' : Hp) (q : Addr), Same H H' → H q = none → H' q = some (.lst (vi (insL L.length (keyAt L) (keyAt G) a b))) → Q (.ref q) H'
theorem ok_pin (T : Tx K mg A) : FnOk P w K mg base CX0 1 A.f_places_inside A.d_places_inside ["told", "first", "last"] spPin := by
  refine T.F_places_inside.ok sc_places_inside (fun vs H Q E h => ?_) (fun cdv B outer s H vs Q E hr h => ?_)
  · obtain ⟨t, a, b, xs, L, G, rfl, _⟩ := h
    rfl
  · obtain ⟨t, a, b, xs, L, G, rfl, et, hps, hLG, hL, q⟩ := h
    have nd := sc_places_inside.nd
    have hxl := Paired.length hps
    rw [List.length_zip, hLG, Nat.min_self, ← hLG] at hxl
    refine ⟨_, (pss_one (ps_ret (pe_lc (own := [("place", 3), ("least", 4), ("greatest", 5)]) (g := gTup K 2 (gCons (gName 3) (gCons (gTup K 2 (gCons (gName 4) (gCons (gName 5) (gNil)))) (gNil)))) rfl nd (pi_enS (by rfl) T.g_enumerate (pa_cons (pv 0) pa_nil)) (blkOk_by (own := [("place", 3), ("least", 4), ("greatest", 5)]) (N := ["told", "first", "last", "place", "least", "greatest"]) (sc := defScope s_places_inside) (by decide +kernel)) (fun _ _ _ _ _ => (pg_tup rfl (pgs_cons (pg_name (i := 3) nd rfl (Or.inl rfl)) (pgs_cons (pg_tup rfl (pgs_cons (pg_name (i := 4) nd rfl (Or.inl rfl)) (pgs_cons (pg_name (i := 5) nd rfl (Or.inl rfl)) pgs_nil))) pgs_nil)))) (fun _ _ _ _ _ => pts_one (PW.pt (pw_and (pt_cmpR op_ge (pv 4) (pv 1) (nomark _)) (pw_and1 (pt_cmpR op_le (pv 5) (pv 2) (nomark _)))))) (fun _ _ _ _ _ => (pv 3))))), ?_⟩
    refine ⟨_, rfl, t, _, rfl, .inl ⟨SqL.of et, fun D nD => ?_⟩⟩
    refine lc_it (walk_enum (xs := xs)) (fun j H' => Acc H D (vi ((List.range j).filter (insB (keyAt L) (keyAt G) a b))) H') (Acc.start nD) (fun j H' _ ac => SqL.of (ac.s _ _ et)) ?_ ?_
    · rintro j y H2o H2 hj ac ⟨T', x, x2, rfl, hT, rfl, e1, e2⟩
      cases e1
      obtain ⟨p, ep, u, rfl, eu⟩ := prs_get hps e2
      obtain ⟨hj1, hj2, rfl⟩ := zip_at ep
      have sT := Same.up (o := .tup [V.int (j : Nat), V.ref u]) hT
      have acT := ac.same sT
      have euT := sT _ _ (ac.s _ _ eu)
      refine ⟨_, _, rfl, SqT.of upd_same, rfl, _, _, rfl, _, _, rfl, u, _, rfl, SqT.of euT, rfl, _, _, rfl, _, _, rfl, rfl, rfl, ?_⟩
      generalize upd H2o T' (.tup [V.int (j : Nat), V.ref u]) = H3 at acT euT
      have hf : ∀ bb, insB (keyAt L) (keyAt G) a b j = bb → (List.range (j + 1)).filter (insB (keyAt L) (keyAt G) a b) = (List.range j).filter (insB (keyAt L) (keyAt G) a b) ++ if bb = true then [j] else [] := fun bb e => by
        rw [List.range_succ, List.filter_append]
        congr 1
        rw [List.filter_cons, e, List.filter_nil]
      have hlen : (vi ((List.range j).filter (insB (keyAt L) (keyAt G) a b))).length < sizeLine := by
        have := List.length_filter_le (insB (keyAt L) (keyAt G) a b) (List.range j)
        rw [List.length_range] at this
        rw [vi_len, sizeLine_eq]
        omega
      refine ⟨rfl, _, rfl, _, rfl, _, _, rfl, rfl, _, rfl, ?_⟩
      by_cases h1 : keyAt L j ≥ a
      · refine ite_b (c := true) (decide_eq_true h1) (iteT ⟨_, rfl, _, rfl, _, _, rfl, rfl, _, rfl, ?_⟩)
        by_cases h2 : keyAt G j ≤ b
        · refine ite_b (c := true) (decide_eq_true h2) (iteT ⟨_, rfl, _, acT.a, hlen, ?_⟩)
          rw [hf true (by unfold insB; rw [decide_eq_true h1, decide_eq_true h2]; rfl), if_pos rfl]
          unfold vi
          rw [List.map_append]
          exact acT.push
        · refine ite_b (c := false) (decide_eq_false h2) (iteF ?_)
          rw [hf false (by unfold insB; rw [decide_eq_false h2, Bool.and_false]), if_neg Bool.false_ne_true, List.append_nil]
          exact acT
      · refine ite_b (c := false) (decide_eq_false h1) (iteF ?_)
        rw [hf false (by unfold insB; rw [decide_eq_false h1, Bool.false_and]), if_neg Bool.false_ne_true, List.append_nil]
        exact acT
    · intro H2 ac
      rw [hxl] at ac
      exact q H2 D ac.s ac.n ac.a
theorem b_pin (T : Tx K mg A) : L2.Binds K A.d_places_inside ["told", "first", "last"] [] := T.F_places_inside.binds fun _ _ _ _ _ _ us hl => match us, hl with | [_, _, _], _ => rfl
def spIcr : Sp := fun vs H Q _ => ∃ (t : Addr) (a b : Int) (xs : List V), vs = [.ref t, .int a, .int b] ∧ Sq H t xs ∧ Q (.bl (decide ((xs.length : Int) > max 0 (b - a + 1)))) H
theorem ok_icr (T : Tx K mg A) : FnOk P w K mg base CX0 1 A.f_is_crowd A.d_is_crowd ["places", "first", "last"] spIcr := by
  refine T.F_is_crowd.ok sc_is_crowd (fun vs H Q E h => ?_) (fun cdv B outer s H vs Q E hr h => ?_)
  · obtain ⟨t, a, b, xs, rfl, _⟩ := h
    rfl
  · obtain ⟨t, a, b, xs, rfl, et, q⟩ := h
    have nd := sc_is_crowd.nd
    refine ⟨_, (pss_one (ps_ret (pe_cmpR op_gt (pe_callB (r := rLn K) call_len_seq (by rfl) T.g_len PySem.boot_len (pa_cons (pv 0) pa_nil)) (pe_callB (call_max2 rfl) (by rfl) T.g_max (by decide +kernel) (pa_cons pe_int (pa_cons (pe_op op_add (pe_op op_sub (pv 2) (pv 1)) pe_int) pa_nil))) (nomark _)))), ?_⟩
    refine ⟨_, rfl, t, xs, rfl, et.imp SqL.of SqT.of, ?_⟩
    refine ⟨_, rfl, _, rfl, _, _, rfl, rfl, _, _, rfl, rfl, _, _, rfl, _, _, rfl, rfl, ?_⟩
    have e : (if b - a + 1 > 0 then b - a + 1 else 0) = max 0 (b - a + 1) := by split <;> omega
    show Q (.bl (decide ((if b - a + 1 > 0 then b - a + 1 else 0) < (xs.length : Int)))) H
    rw [e]
    exact q
theorem b_icr (T : Tx K mg A) : L2.Binds K A.d_is_crowd ["places", "first", "last"] [] := T.F_is_crowd.binds fun _ _ _ _ _ _ us hl => match us, hl with | [_, _, _], _ => rfl
def rowV (n : Nat) (qs : List Nat) : List V := (List.range n).map fun p => if p ∈ qs then V.int ((qs.idxOf p : Nat) : Int) else V.non
theorem rowV_len (n : Nat) (qs : List Nat) : (rowV n qs).length = n := by
  unfold rowV
  rw [List.length_map, List.length_range]
theorem rowV_at {n p : Nat} (qs : List Nat) (h : p < n) : (rowV n qs)[p]? = some (if p ∈ qs then V.int ((qs.idxOf p : Nat) : Int) else V.non) := by
  unfold rowV
  rw [List.getElem?_map, List.getElem?_range h]
  rfl
theorem rowV_set {n p : Nat} {qs : List Nat} (h : p < n) (hp : p ∉ qs) : (rowV n qs).set p (V.int ((qs.length : Nat) : Int)) = rowV n (qs ++ [p]) := by
  refine List.ext_getElem? fun i => ?_
  by_cases hi : i < n
  · rw [List.getElem?_set, rowV_at _ hi, rowV_at _ hi]
    by_cases e : p = i
    · subst e
      rw [if_pos rfl, if_pos (by rw [rowV_len]; exact hi), if_pos (List.mem_append_right _ (List.mem_singleton.mpr rfl)), List.idxOf_append, if_neg hp]
      have : List.idxOf p [p] = 0 := by rw [List.idxOf_cons_self]
      rw [this, Nat.zero_add]
    · rw [if_neg e]
      by_cases hm : i ∈ qs
      · rw [if_pos hm, if_pos (List.mem_append_left _ hm), List.idxOf_append, if_pos hm]
      · rw [if_neg hm, if_neg fun z => by
          rcases List.mem_append.mp z with z | z
          · exact hm z
          · exact e (List.mem_singleton.mp z).symm]
  · rw [List.getElem?_eq_none (by rw [List.length_set, rowV_len]; omega), List.getElem?_eq_none (by rw [rowV_len]; omega)]
def waitB (l : Nat → Int) (qs : List Nat) (k p : Nat) : Bool := decide (p ∉ qs) && decide (l p ≤ (k : Int))
theorem edf_push {n p : Nat} {l g : Nat → Int} {qs : List Nat} (e : Edf n l g qs) (hp : p ∈ (List.range n).filter (waitB l qs qs.length)) (hm : ∀ x ∈ (List.range n).filter (waitB l qs qs.length), g p ≤ g x) : Edf n l g (qs ++ [p]) := by
  have mw : ∀ x, x ∈ (List.range n).filter (waitB l qs qs.length) ↔ x < n ∧ x ∉ qs ∧ l x ≤ qs.length := fun x => by
    unfold waitB
    rw [List.mem_filter, List.mem_range, Bool.and_eq_true, decide_eq_true_eq, decide_eq_true_eq]
  obtain ⟨e1, e2, e3⟩ := e
  obtain ⟨p1, p2, p3⟩ := (mw p).mp hp
  refine ⟨?_, fun q hq => ?_, fun k hk => ?_⟩
  · refine List.nodup_append.mpr ⟨e1, List.nodup_cons.mpr ⟨fun z => (nomatch z), List.nodup_nil⟩, fun a ha b hb z => ?_⟩
    rw [List.mem_singleton.mp hb] at z
    exact p2 (z ▸ ha)
  · rcases List.mem_append.mp hq with hq | hq
    · exact e2 q hq
    · rw [List.mem_singleton.mp hq]
      exact p1
  · rw [List.length_append] at hk
    have hk : k < qs.length + 1 := hk
    by_cases hkl : k < qs.length
    · obtain ⟨z1, z2⟩ := e3 k hkl
      rw [List.getElem_append_left hkl, List.take_append_of_le_length (by omega)]
      exact ⟨z1, z2⟩
    · have : k = qs.length := by omega
      subst this
      rw [List.getElem_append_right (Nat.le_refl _), List.take_append_of_le_length (Nat.le_refl _), List.take_length]
      simp only [Nat.sub_self, List.getElem_cons_zero]
      exact ⟨p3, fun x x1 x2 x3 => hm x ((mw x).mpr ⟨x1, x2, x3⟩)⟩
theorem edf_nil (n : Nat) (l g : Nat → Int) : Edf n l g [] := ⟨List.nodup_nil, (fun _ z => absurd z List.not_mem_nil), (fun k h => absurd h (Nat.not_lt_zero k))⟩
def spMuf (A : Ad) : Sp := fun vs H Q _ => ∃ (t : Addr) (xs : List V) (L G : List Int), vs = [.ref t] ∧ H t = some (.lst xs) ∧ PrsAt H xs (L.zip G) ∧ L.length = G.length ∧ L.length ≤ 12 ∧ (∀ p, p < L.length → keyAt G p ≤ (L.length : Int) - 1) ∧ (∀ p q, p < L.length → q < L.length → ¬ Crw L.length (keyAt L) (keyAt G) (keyAt L p) (keyAt G q)) ∧ Tabs (TT A) H ∧
  ∀ (H' : Hp) (q : Addr) (qs : List Nat), ExtN H H' → Tabs (TT A) H' → H' q = some (.lst (rowV L.length qs)) → Edf L.length (keyAt L) (keyAt G) qs → qs.length = L.length → Q (.ref q) H'
theorem ok_muf (T : Tx K mg A) (TB : LamX.TabB base mg A.c_most_urgent_first A.P_most_urgent_first) : FnOk P w K mg base CX0 8 A.f_most_urgent_first A.d_most_urgent_first ["told"] (spMuf A) := by
  obtain ⟨oc, od, kV, doc, pm, an, ct, osl, ed, lk, hcd⟩ := T.L_most_urgent_first
  rw [ed] at lk ⊢
  refine fn_of lk hcd sc_most_urgent_first (fun vs H Q E h => ?_) (fun B outer s H vs Q E hr h => ?_)
  · obtain ⟨t, xs, L, G, rfl, _⟩ := h
    rfl
  · obtain ⟨t, xs, L, G, rfl, et, hps, hLG, hL, hG, nc, hT, q⟩ := h
    have nd := sc_most_urgent_first.nd
    have hxl := Paired.length hps
    rw [List.length_zip, hLG, Nat.min_self, ← hLG] at hxl
    refine ⟨_, PSs.nox (C8.pss_cut (ps_set (i := 1) nd rfl (Or.inr rfl) (pe_op op_rep (pe_lst (pa_cons pe_non pa_nil)) (pe_callB (r := rLn K) call_len_seq (by rfl) T.g_len PySem.boot_len (pa_cons (pv 0) pa_nil))))
      (C8.pss_cut (ps_for PassesOwn.never rfl (pi_range1 rfl T.g_range (pa_cons (pe_callB (r := rLn K) call_len_seq (by rfl) T.g_len PySem.boot_len (pa_cons (pv 0) pa_nil)) pa_nil)) (pg_name (i := 2) nd rfl (Or.inr rfl)) (C8.pss_cut (ps_setLc (i := 3) (own := [("place", 4), ("least", 5), ("_", 6)]) (g := gTup K 2 (gCons (gName 4) (gCons (gTup K 2 (gCons (gName 5) (gCons (gName 6) (gNil)))) (gNil)))) rfl nd rfl rfl (sw_true rfl rfl rfl (by decide +kernel)) (pi_enS (by rfl) T.g_enumerate (pa_cons (pv 0) pa_nil)) (blkOk_by (own := [("place", 4), ("least", 5), ("_", 6)]) (N := ["told", "row", "rank", "waiting", "place", "least", "_"]) (sc := defScope s_most_urgent_first) (by decide +kernel)) (fun _ _ _ _ _ => (pg_tup rfl (pgs_cons (pg_name (i := 4) nd rfl (Or.inl rfl)) (pgs_cons (pg_tup rfl (pgs_cons (pg_name (i := 5) nd rfl (Or.inl rfl)) (pgs_cons (pg_name (i := 6) nd rfl (Or.inl rfl)) pgs_nil))) pgs_nil)))) (fun _ _ _ _ _ => pts_one (PW.pt (pw_and (pt_cmpR op_isN (pe_ix (r := rIxL K) ix_list (pv 1) (pv 4) (fun _ _ => rfl)) pe_non (nomark _)) (pw_and1 (pt_cmpR op_le (pv 5) (pv 2) (nomark _)))))) (fun _ _ _ _ _ => (pv 4)))
      (pss_one (ps_asg (pv 2) (pg_sub (pv 1) (Lm.pe_minlam (T := TT A) (i := 4) (x := "place") (k := 3) false (by rfl) T.g_min (pv 3) (hr.mono (by decide)) hr.hd TB rfl (List.mem_singleton.mpr rfl) (fun p hp _ => by rw [List.mem_singleton.mp hp]; rfl) (Lm.lamP_by (sc := defScope s_most_urgent_first) (by decide +kernel)) rfl nd rfl (fun _ _ _ _ _ _ => rfl) (fun A2 outer2 s2 H2 f2 c2 hr2 => (pe_ix (r := rIxT K) ix_tup (pe_ix (r := rIxL K) ix_list (pv 0) (pv 4) (fun _ _ => rfl)) pe_int (fun _ _ => rfl)))) set_list)))))
      (pss_one (ps_ret (pv 1))))), ?_⟩
    refine ⟨fun σ' H' => ∃ q1 : Addr, σ' = [some (.ref t), some (.ref q1), none, none, none, none, none] ∧ Same H H' ∧ H q1 = none ∧ H' q1 = some (.lst (rowV L.length [])), ?_, ?_⟩
    · refine ⟨by show 1 ≤ sizeLine; decide, fun u nu => ⟨_, rfl, t, _, rfl, .inl (SqL.of ((Same.up nu) _ _ et)), ?_⟩⟩
      refine ⟨u, _, _, rfl, rfl, upd_same, by omega, by omega, by rw [Int.toNat_natCast, sizeLine_eq]; show 1 * _ ≤ _; omega, fun D nD => ⟨D, rfl, (Same.up nu).trans (Same.up nD), (Same.up nu).free nD, ?_⟩⟩
      rw [upd_same, Int.toNat_natCast, hxl]
      congr 2
      unfold rowV
      induction L.length with
      | zero => rfl
      | succ n ih =>
        rw [List.replicate_succ, List.flatten_cons, ih, List.range_succ_eq_map, List.map_cons, List.map_map]
        rfl
    rintro σ' H1 ⟨q1, rfl, s1, n1, e1⟩
    have et1 := s1 _ _ et
    refine ⟨fun σ' H' => ∃ (x2 x3 : Option V) (qs : List Nat), σ' = [some (.ref t), some (.ref q1), x2, x3, none, none, none] ∧ ExtN H H' ∧ Tabs (TT A) H' ∧ H' q1 = some (.lst (rowV L.length qs)) ∧ Edf L.length (keyAt L) (keyAt G) qs ∧ qs.length = L.length, ?_, ?_⟩
    · refine ⟨_, rfl, t, _, rfl, .inl (SqL.of et1), _, rfl, ?_⟩
      rw [hxl]
      refine ⟨by omega, by omega, ?_⟩
      refine for_it (walk_range (lo := 0) (n := L.length)) (fun k σ' H' => ∃ (x2 x3 : Option V) (qs : List Nat), σ' = [some (.ref t), some (.ref q1), x2, x3, none, none, none] ∧ ExtN H H' ∧ Tabs (TT A) H' ∧ H' q1 = some (.lst (rowV L.length qs)) ∧ Edf L.length (keyAt L) (keyAt G) qs ∧ qs.length = k)
        ⟨none, none, [], rfl, extN_of s1, hT.ext s1, e1, edf_nil _ _ _, rfl⟩ (fun _ _ _ _ _ => trivial) ?_ (fun σ' H' h => h)
      rintro k y σ' Ho H2 hk ⟨x2, x3, qs, rfl, e2, t2, e12, ed2, hq⟩ ⟨rfl, ey⟩
      obtain rfl : y = V.int (k : Nat) := ey.trans (by show V.int (0 + (k : Int)) = _; rw [Int.zero_add])
      obtain ⟨p0, p1, p2, p3⟩ := edf_next ed2 (by omega) hG nc
      have hpw : p0 ∈ (List.range L.length).filter (waitB (keyAt L) qs qs.length) := by
        unfold waitB
        rw [List.mem_filter, List.mem_range, Bool.and_eq_true, decide_eq_true_eq, decide_eq_true_eq]
        exact ⟨p1, p2, p3⟩
      have et2 := e2 _ _ et (fun _ z => nomatch z)
      refine ⟨fun σ' H' => ∃ D : Addr, σ' = [some (.ref t), some (.ref q1), some (.int (k : Nat)), some (.ref D), none, none, none] ∧ Acc H2 D (vi ((List.range L.length).filter (waitB (keyAt L) qs k))) H', ?_, ?_⟩
      · refine ⟨_, rfl, t, _, rfl, .inl ⟨SqL.of et2, fun D nD => ?_⟩⟩
        refine lc_it (walk_enum (xs := xs)) (fun j H' => Acc H2 D (vi ((List.range j).filter (waitB (keyAt L) qs k))) H') (Acc.start nD) (fun j H' _ ac => SqL.of (ac.s _ _ et2)) ?_ ?_
        · rintro j y H3o H3 hj ac ⟨T', x, x2, rfl, hT', rfl, ej, ey⟩
          cases ej
          obtain ⟨p, ep, u, rfl, eu⟩ := prs_get hps ey
          obtain ⟨hj1, hj2, rfl⟩ := zip_at ep
          have sT := Same.up (o := .tup [V.int (j : Nat), V.ref u]) hT'
          have acT := ac.same sT
          have euT := sT _ _ (ac.s _ _ (e2 _ _ eu (fun _ z => nomatch z)))
          refine ⟨_, _, rfl, SqT.of upd_same, rfl, _, _, rfl, _, _, rfl, u, _, rfl, SqT.of euT, rfl, _, _, rfl, _, _, rfl, rfl, rfl, ?_⟩
          generalize upd H3o T' (.tup [V.int (j : Nat), V.ref u]) = H3 at acT euT
          have hf : ∀ bb, waitB (keyAt L) qs k j = bb → (List.range (j + 1)).filter (waitB (keyAt L) qs k) = (List.range j).filter (waitB (keyAt L) qs k) ++ if bb = true then [j] else [] := fun bb e => by
            rw [List.range_succ, List.filter_append]
            congr 1
            rw [List.filter_cons, e, List.filter_nil]
          have hlen : (vi ((List.range j).filter (waitB (keyAt L) qs k))).length < sizeLine := by
            have := List.length_filter_le (waitB (keyAt L) qs k) (List.range j)
            rw [List.length_range] at this
            rw [vi_len, sizeLine_eq]
            omega
          have hat : atI (rowV L.length qs) ((j : Nat) : Int) = some (if j ∈ qs then V.int ((qs.idxOf j : Nat) : Int) else V.non) := by
            unfold atI
            rw [ixN_nat (by rw [rowV_len]; exact hj1)]
            exact rowV_at qs hj1
          refine ⟨rfl, _, rfl, _, rfl, q1, _, _, _, rfl, rfl, SqL.of (acT.s _ _ e12), hat, rfl, _, rfl, ?_⟩
          by_cases h1 : j ∈ qs
          · rw [if_pos h1]
            refine ite_b (c := false) (decide_eq_false (fun z => nomatch z)) (iteF ?_)
            rw [hf false (by unfold waitB; rw [decide_eq_false (fun z => z h1), Bool.false_and]), if_neg Bool.false_ne_true, List.append_nil]
            exact acT
          · rw [if_neg h1]
            refine ite_b (c := true) (decide_eq_true rfl) (iteT ⟨_, rfl, _, rfl, _, _, rfl, rfl, _, rfl, ?_⟩)
            by_cases h2 : keyAt L j ≤ (k : Nat)
            · refine ite_b (c := true) (decide_eq_true h2) (iteT ⟨_, rfl, _, acT.a, hlen, ?_⟩)
              rw [hf true (by unfold waitB; rw [decide_eq_true h1, decide_eq_true h2]; rfl), if_pos rfl]
              unfold vi
              rw [List.map_append]
              exact acT.push
            · refine ite_b (c := false) (decide_eq_false h2) (iteF ?_)
              rw [hf false (by unfold waitB; rw [decide_eq_false h2, Bool.and_false]), if_neg Bool.false_ne_true, List.append_nil]
              exact acT
        · intro H3 ac
          rw [hxl] at ac
          exact ⟨D, rfl, ac⟩
      rintro σ' H3 ⟨D, rfl, ac⟩
      subst hq
      have hne : 0 < ((List.range L.length).filter (waitB (keyAt L) qs qs.length)).length := List.length_pos_of_mem hpw
      generalize hW : (List.range L.length).filter (waitB (keyAt L) qs qs.length) = W at hpw hne ac
      have hWl : ∀ x ∈ W, x < L.length ∧ x ∉ qs := fun x hx => by
        rw [← hW] at hx
        unfold waitB at hx
        rw [List.mem_filter, List.mem_range, Bool.and_eq_true, decide_eq_true_eq, decide_eq_true_eq] at hx
        exact ⟨hx.1, hx.2.1⟩
      have e13 := ac.s _ _ e12
      refine ⟨_, rfl, _, rfl, _, rfl, D, vi W, fun j => keyAt G (W.getD j 0), rfl, SqL.of ac.a, by rw [vi_len]; exact hne, t2.ext ac.s, fun H4 e4 t4 => ⟨fun j y H' hy e5 t5 => ?_, fun j y H' hm hy e5 t5 => ?_⟩⟩
      · obtain ⟨hj, rfl⟩ := vi_at hy
        have hgm : W.getD j 0 ∈ W := by rw [List.getD_eq_getElem?_getD, List.getElem?_eq_getElem hj]; exact List.getElem_mem hj
        obtain ⟨hpl, _⟩ := hWl _ hgm
        show tOp (rIxT K) (tOp (rIxL K) (tVar 0) (tVar 4)) (tC (V.int 1)) _ H' fun k H'' => k = V.int (keyAt G (W.getD j 0)) ∧ ExtN H' H'' ∧ Tabs (TT A) H''
        generalize W.getD j 0 = p at hpl
        have hpx : p < xs.length := by omega
        obtain ⟨pr, ep, u, eu, eu2⟩ := prs_get hps (List.getElem?_eq_getElem hpx)
        obtain ⟨_, _, rfl⟩ := zip_at ep
        have hx : ExtN H H' := ((e2.trans (extN_of ac.s)).trans e4).trans e5
        have hat : atI xs ((p : Nat) : Int) = some (.ref u) := by
          unfold atI
          rw [ixN_nat hpx, ← eu]
          exact List.getElem?_eq_getElem hpx
        exact ⟨_, rfl, _, rfl, t, _, _, _, rfl, rfl, SqL.of (hx _ _ et (fun _ z => nomatch z)), hat, u, _, _, _, rfl, rfl, SqT.of (hx _ _ eu2 (fun _ z => nomatch z)), rfl, rfl, (fun _ _ z _ => z), t5⟩
      · obtain ⟨hj, rfl⟩ := vi_at hy
        have hgm : W.getD j 0 ∈ W := by rw [List.getD_eq_getElem?_getD, List.getElem?_eq_getElem hj]; exact List.getElem_mem hj
        obtain ⟨hpl, hpq⟩ := hWl _ hgm
        have hle : ∀ x ∈ W, keyAt G (W.getD j 0) ≤ keyAt G x := fun x hx => by
          obtain ⟨i, hi, rfl⟩ := List.getElem_of_mem hx
          have := hm.2.1 i (by rw [vi_len]; exact hi)
          rw [← (show W.getD i 0 = W[i] by rw [List.getD_eq_getElem?_getD, List.getElem?_eq_getElem hi]; rfl)]
          exact this
        have hps2 := edf_push ed2 (by rw [hW]; exact hgm) (by rw [hW]; exact hle)
        show rSetL (V.ref q1) (V.int (W.getD j 0 : Nat)) (V.int qs.length) H' _
        generalize W.getD j 0 = p at *
        have e14 : H' q1 = some (.lst (rowV L.length qs)) := e5 _ _ (e4 _ _ e13 (fun _ z => nomatch z)) (fun _ z => nomatch z)
        refine ⟨q1, _, _, p, rfl, rfl, e14, ixN_nat (by rw [rowV_len]; exact hpl), ?_⟩
        rw [rowV_set hpl hpq]
        refine ⟨_, _, qs ++ [p], rfl, fun b o e z => ?_, tabs_upd t5 e14, upd_same, hps2, by rw [List.length_append]; rfl⟩
        rw [upd_ne (ne_of_none e n1)]
        exact e5 _ _ (e4 _ _ (ac.s _ _ (e2 _ _ e z)) z) z
    rintro σ' H2 ⟨x2, x3, qs, rfl, e2, t2, e12, ed2, hq⟩
    exact ⟨_, rfl, q H2 q1 qs e2 t2 e12 ed2 hq⟩
theorem b_muf (T : Tx K mg A) : L2.Binds K A.d_most_urgent_first ["told"] [] := T.F_most_urgent_first.binds fun _ _ _ _ _ _ us hl => match us, hl with | [_], _ => rfl

end
end Tw

set_option Elab.async false
set_option linter.all false
set_option maxRecDepth 100000
set_option maxHeartbeats 2000000
namespace Tw
open PySem PySem.Spec PyProof.Rows L2
section
variable {P : Program} {w : World} {K : PySem.W.Frag} {mg : Str → Option Value} {base : Heap} {A : Ad}
open LamX (ExtN Tabs TabS)
def e0 : Str := ⟨#[]⟩
end
end Tw

set_option Elab.async false
set_option linter.all false
set_option maxRecDepth 100000
set_option maxHeartbeats 2000000
namespace Tw
open PySem PySem.Spec PyProof.Rows L2
section
variable {P : Program} {w : World} {K : PySem.W.Frag} {mg : Str → Option Value} {base : Heap} {A : Ad}
open LamX (ExtN Tabs TabS)
/-! Fitted: extN_of -/
def fdF (v0 : V) : List (Str × V) := putF "row" v0 (([] : List (Str × V)))
theorem fdF_row (v0 : V) : (fdF v0).lookup ("row" : Str) = some v0 := by
  unfold fdF
  rw [lookup_putF, if_pos rfl]
def AtF (C : Addr) (H : Hp) (p : Addr) (x0 : List Int) : Prop := ∃ (dx t0 : Addr), H p = some (.ins C dx (fdF (.ref t0))) ∧ H t0 = some (.tup (x0.map V.int))
theorem AtF.ext {C : Addr} {H H' : Hp} {p : Addr} {x0 : List Int} (h : AtF C H p x0) (e : LamX.ExtN H H') : AtF C H' p x0 := let ⟨dx, t0, h, e0⟩ := h; ⟨dx, t0, e _ _ h (fun _ z => nomatch z), e _ _ e0 (fun _ z => nomatch z)⟩
theorem AtF.same {C : Addr} {H H' : Hp} {p : Addr} {x0 : List Int} (h : AtF C H p x0) (s : Same H H') : AtF C H' p x0 := h.ext (extN_of s)
theorem AtF.ins {C : Addr} {H : Hp} {p : Addr} {x0 : List Int} (h : AtF C H p x0) : ∃ dx fs, H p = some (.ins C dx fs) := let ⟨dx, t0, h, e0⟩ := h; ⟨dx, _, h⟩
def spIF (C : Addr) : Sp := fun vs H Q _ => ∃ (p dx a0 : Nat) (x0 : List Int), vs = [.ref p, .ref a0] ∧ H p = some (.ins C dx []) ∧ (H a0 = some (.lst (x0.map V.int)) ∨ H a0 = some (.tup (x0.map V.int))) ∧ ∀ (H' : Hp), (∀ b o, H b = some o → b ≠ p → H' b = some o) → AtF C H' p x0 → Q .non H'
theorem ok_iF (T : Tx K mg A) : FnOk P w K mg base CX0 1 A.f_f___init__ A.d_f___init__ ["self", "row"] (spIF A.CF) := by
  refine T.F_f___init__.ok sc_f___init__ (fun vs H Q E h => ?_) (fun cdv B outer s H vs Q E hr h => ?_)
  · obtain ⟨p, dx, a0, x0, rfl, _⟩ := h
    rfl
  · obtain ⟨p, dx, a0, x0, rfl, hp, ha0, q⟩ := h
    refine ⟨_, (pss_one (ps_fld (pv 0) (pe_callTy (r := rTupU) call_tupU (by rfl) T.g_tuple (by decide +kernel) (pa_cons (pv 1) pa_nil)) rfl)), ?_⟩
    have fr : ∀ b o, H b = some o → b ≠ p → H b = some o := fun b o e _ => e
    refine ⟨_, rfl, a0, _, rfl, ha0, fun t0 G0 s0 e0 => ?_⟩
    have hp := s0 _ _ hp
    have fr : ∀ b o, H b = some o → b ≠ p → G0 b = some o := fun b o e n => s0 _ _ (fr b o e n)
    refine ⟨_, rfl, p, A.CF, dx, _, rfl, hp, T.cTF, T.fRow, (by show 0 < 1000; decide), ?_⟩
    have fr : ∀ b o, H b = some o → b ≠ p → (upd G0 p (.ins A.CF dx (putF "row" (.ref t0) ([])))) b = some o := fun b o e n => by rw [upd_ne n]; exact fr b o e n
    have e0 : (upd G0 p (.ins A.CF dx (putF "row" (.ref t0) ([])))) t0 = _ := (upd_ne (ne_of e0 hp (by intro z; cases z))).trans e0
    have hp : (upd G0 p (.ins A.CF dx (putF "row" (.ref t0) ([])))) p = _ := upd_same
    exact q _ fr ⟨dx, t0, hp, e0⟩
theorem b_iF (T : Tx K mg A) : L2.Binds K A.d_f___init__ ["self", "row"] [] := T.F_f___init__.binds fun _ _ _ _ _ _ us hl => match us, hl with | [_, _], _ => rfl
/-! Crowded -/
def fdC (v0 v1 v2 : V) : List (Str × V) := putF "places" v2 (putF "last" v1 (putF "first" v0 (([] : List (Str × V)))))
theorem fdC_first (v0 v1 v2 : V) : (fdC v0 v1 v2).lookup ("first" : Str) = some v0 := by
  unfold fdC
  rw [lookup_putF, if_neg (by decide +kernel), lookup_putF, if_neg (by decide +kernel), lookup_putF, if_pos rfl]
theorem fdC_last (v0 v1 v2 : V) : (fdC v0 v1 v2).lookup ("last" : Str) = some v1 := by
  unfold fdC
  rw [lookup_putF, if_neg (by decide +kernel), lookup_putF, if_pos rfl]
theorem fdC_places (v0 v1 v2 : V) : (fdC v0 v1 v2).lookup ("places" : Str) = some v2 := by
  unfold fdC
  rw [lookup_putF, if_pos rfl]
def AtC (C : Addr) (H : Hp) (p : Addr) (x0 : Int) (x1 : Int) (x2 : List Int) : Prop := ∃ (dx t2 : Addr), H p = some (.ins C dx (fdC (.int x0) (.int x1) (.ref t2))) ∧ H t2 = some (.tup (x2.map V.int))
theorem AtC.ext {C : Addr} {H H' : Hp} {p : Addr} {x0 : Int} {x1 : Int} {x2 : List Int} (h : AtC C H p x0 x1 x2) (e : LamX.ExtN H H') : AtC C H' p x0 x1 x2 := let ⟨dx, t2, h, e2⟩ := h; ⟨dx, t2, e _ _ h (fun _ z => nomatch z), e _ _ e2 (fun _ z => nomatch z)⟩
theorem AtC.same {C : Addr} {H H' : Hp} {p : Addr} {x0 : Int} {x1 : Int} {x2 : List Int} (h : AtC C H p x0 x1 x2) (s : Same H H') : AtC C H' p x0 x1 x2 := h.ext (extN_of s)
theorem AtC.ins {C : Addr} {H : Hp} {p : Addr} {x0 : Int} {x1 : Int} {x2 : List Int} (h : AtC C H p x0 x1 x2) : ∃ dx fs, H p = some (.ins C dx fs) := let ⟨dx, t2, h, e2⟩ := h; ⟨dx, _, h⟩
def spIC (C : Addr) : Sp := fun vs H Q _ => ∃ (p dx a2 : Nat) (x0 : Int) (x1 : Int) (x2 : List Int), vs = [.ref p, .int x0, .int x1, .ref a2] ∧ H p = some (.ins C dx []) ∧ (H a2 = some (.lst (x2.map V.int)) ∨ H a2 = some (.tup (x2.map V.int))) ∧ ∀ (H' : Hp), (∀ b o, H b = some o → b ≠ p → H' b = some o) → AtC C H' p x0 x1 x2 → Q .non H'
theorem ok_iC (T : Tx K mg A) : FnOk P w K mg base CX0 1 A.f_c___init__ A.d_c___init__ ["self", "first", "last", "places"] (spIC A.CC) := by
  refine T.F_c___init__.ok sc_c___init__ (fun vs H Q E h => ?_) (fun cdv B outer s H vs Q E hr h => ?_)
  · obtain ⟨p, dx, a2, x0, x1, x2, rfl, _⟩ := h
    rfl
  · obtain ⟨p, dx, a2, x0, x1, x2, rfl, hp, ha2, q⟩ := h
    refine ⟨_, (pss_cons (ps_fld (pv 0) (pv 1) rfl)
      (pss_cons (ps_fld (pv 0) (pv 2) rfl)
      (pss_one (ps_fld (pv 0) (pe_callTy (r := rTupU) call_tupU (by rfl) T.g_tuple (by decide +kernel) (pa_cons (pv 3) pa_nil)) rfl)))), ?_⟩
    have fr : ∀ b o, H b = some o → b ≠ p → H b = some o := fun b o e _ => e
    refine ⟨_, rfl, _, rfl, p, A.CC, dx, _, rfl, hp, T.cTC, T.cFirst, (by show 0 < 1000; decide), ?_⟩
    have fr : ∀ b o, H b = some o → b ≠ p → (upd H p (.ins A.CC dx (putF "first" (.int x0) ([])))) b = some o := fun b o e n => by rw [upd_ne n]; exact fr b o e n
    have ha2 := ha2.imp (fun z => (upd_ne (o := .ins A.CC dx (putF "first" (.int x0) ([]))) (ne_of z hp (by intro z; cases z))).trans z) (fun z => (upd_ne (o := .ins A.CC dx (putF "first" (.int x0) ([]))) (ne_of z hp (by intro z; cases z))).trans z)
    have hp : (upd H p (.ins A.CC dx (putF "first" (.int x0) ([])))) p = _ := upd_same
    generalize upd H p (.ins A.CC dx (putF "first" (.int x0) ([]))) = U0 at fr hp ha2
    refine ⟨_, rfl, _, rfl, p, A.CC, dx, _, rfl, hp, T.cTC, T.cLast, (by show 1 < 1000; decide), ?_⟩
    have fr : ∀ b o, H b = some o → b ≠ p → (upd U0 p (.ins A.CC dx (putF "last" (.int x1) (putF "first" (.int x0) ([]))))) b = some o := fun b o e n => by rw [upd_ne n]; exact fr b o e n
    have ha2 := ha2.imp (fun z => (upd_ne (o := .ins A.CC dx (putF "last" (.int x1) (putF "first" (.int x0) ([])))) (ne_of z hp (by intro z; cases z))).trans z) (fun z => (upd_ne (o := .ins A.CC dx (putF "last" (.int x1) (putF "first" (.int x0) ([])))) (ne_of z hp (by intro z; cases z))).trans z)
    have hp : (upd U0 p (.ins A.CC dx (putF "last" (.int x1) (putF "first" (.int x0) ([]))))) p = _ := upd_same
    generalize upd U0 p (.ins A.CC dx (putF "last" (.int x1) (putF "first" (.int x0) ([])))) = U1 at fr hp ha2
    refine ⟨_, rfl, a2, _, rfl, ha2, fun t2 G2 s2 e2 => ?_⟩
    have hp := s2 _ _ hp
    have fr : ∀ b o, H b = some o → b ≠ p → G2 b = some o := fun b o e n => s2 _ _ (fr b o e n)
    refine ⟨_, rfl, p, A.CC, dx, _, rfl, hp, T.cTC, T.cPlaces, (by show 2 < 1000; decide), ?_⟩
    have fr : ∀ b o, H b = some o → b ≠ p → (upd G2 p (.ins A.CC dx (putF "places" (.ref t2) (putF "last" (.int x1) (putF "first" (.int x0) ([])))))) b = some o := fun b o e n => by rw [upd_ne n]; exact fr b o e n
    have e2 : (upd G2 p (.ins A.CC dx (putF "places" (.ref t2) (putF "last" (.int x1) (putF "first" (.int x0) ([])))))) t2 = _ := (upd_ne (ne_of e2 hp (by intro z; cases z))).trans e2
    have hp : (upd G2 p (.ins A.CC dx (putF "places" (.ref t2) (putF "last" (.int x1) (putF "first" (.int x0) ([])))))) p = _ := upd_same
    exact q _ fr ⟨dx, t2, hp, e2⟩
theorem b_iC (T : Tx K mg A) : L2.Binds K A.d_c___init__ ["self", "first", "last", "places"] [] := T.F_c___init__.binds fun _ _ _ _ _ _ us hl => match us, hl with | [_, _, _, _], _ => rfl

end
end Tw

set_option Elab.async false
set_option linter.all false
set_option maxRecDepth 100000
set_option maxHeartbeats 2000000
namespace Tw
open PySem PySem.Spec PyProof.Rows L2
section
variable {P : Program} {w : World} {K : PySem.W.Frag} {mg : Str → Option Value} {base : Heap} {A : Ad}
open LamX (ExtN Tabs TabS)
def AllT (H1 : Hp) (D : Addr) (m : Nat) (H : Hp) : Prop := ∃ bs : List Bool, bs.all id = true ∧ bs.length ≤ m ∧ Acc H1 D (bs.map V.bl) H
theorem AllT.le {H1 H : Hp} {D : Addr} {m k : Nat} (h : AllT H1 D m H) (l : m ≤ k) : AllT H1 D k H := let ⟨bs, a, b, c⟩ := h; ⟨bs, a, Nat.le_trans b l, c⟩
theorem AllT.push {H1 H : Hp} {D : Addr} {m : Nat} (h : AllT H1 D m H) (hl : m < sizeLine) : ∃ acc, H D = some (.lst acc) ∧ acc.length < sizeLine ∧ AllT H1 D (m + 1) (upd H D (.lst (acc ++ [V.bl true]))) := by
  obtain ⟨bs, a, b, c⟩ := h
  refine ⟨_, c.a, by rw [List.length_map]; omega, bs ++ [true], ?_, ?_, ?_⟩
  · rw [List.all_append, a]
    rfl
  · rw [List.length_append]
    exact Nat.succ_le_succ b
  · rw [List.map_append]
    exact c.push
theorem AllT.s {H1 H : Hp} {D : Addr} {m : Nat} (h : AllT H1 D m H) : Same H1 H := let ⟨_, _, _, c⟩ := h; c.s
theorem AllT.same {H1 H H' : Hp} {D : Addr} {m : Nat} (h : AllT H1 D m H) (s : Same H H') : AllT H1 D m H' := let ⟨bs, a, b, c⟩ := h; ⟨bs, a, b, c.same s⟩
theorem AllT.start {H1 : Hp} {D : Addr} (n : H1 D = none) : AllT H1 D 0 (upd H1 D (.lst [])) := ⟨[], rfl, Nat.le_refl _, Acc.start n⟩
def Rise (w : Nat) (ks : List Int) (n : Nat) : Prop := ∀ i, 1 ≤ i → i < n → keyAt ks ((i - 1) / w) ≤ keyAt ks i
theorem b_ifh (T : Tx K mg A) : L2.Binds K A.d_is_full_heap ["row", "many", "arms"] [] := T.F_is_full_heap.binds fun _ _ _ _ _ _ us hl => match us, hl with | [_, _, _], _ => rfl
/-- the faults of a row -/
def faultB (ns : List Int) (w p : Nat) : Bool := decide (0 < p) && decide (ns.getD p 0 < ns.getD ((p - 1) / w) 0)
def faultL (ns : List Int) (w : Nat) : List Nat := (List.range ns.length).filter (faultB ns w)
def lheapB (ns : List Int) (w p : Nat) : Bool := (wayL w p).any fun q => decide (ns.getD p 0 < ns.getD q 0)
def lheap (ns : List Int) (w : Nat) : Bool := (List.range ns.length).all fun p => !lheapB ns w p
theorem way_zero : ∀ w, w < 5 → 1 ≤ w → wayL w 0 = [0] := by decide +kernel
theorem no_fault {ns : List Int} {w : Nat} (hw : 1 ≤ w ∧ w ≤ 4) (hn : ns.length ≤ 12) (h : faultL ns w = []) : ∀ p, p < ns.length → ∀ q ∈ wayL w p, ns.getD q 0 ≤ ns.getD p 0 := by
  have h1 : ∀ p, p < ns.length → 0 < p → ns.getD ((p - 1) / w) 0 ≤ ns.getD p 0 := fun p hp h0 => by
    refine Int.not_lt.mp fun z => ?_
    have m : p ∈ faultL ns w := by
      unfold faultL
      refine List.mem_filter.mpr ⟨List.mem_range.mpr hp, ?_⟩
      unfold faultB
      rw [decide_eq_true h0, decide_eq_true z]
      rfl
    rw [h] at m
    cases m
  intro p
  induction p using Nat.strongRecOn with
  | _ p ih =>
    intro hp q hq
    by_cases h0 : 0 < p
    · have hlt : (p - 1) / w < p := Nat.lt_of_le_of_lt (Nat.div_le_self _ _) (by omega)
      rw [way_rec w p hw (by omega) h0] at hq
      rcases List.mem_append.mp hq with hq | hq
      · exact Int.le_trans (ih _ hlt (by omega) q hq) (h1 p hp h0)
      · rw [List.mem_singleton.mp hq]
        exact Int.le_refl _
    · obtain rfl : p = 0 := by omega
      rw [way_zero w (by omega) hw.1] at hq
      rw [List.mem_singleton.mp hq]
      exact Int.le_refl _
theorem lheap_fault (ns : List Int) (w : Nat) (hw : 1 ≤ w ∧ w ≤ 4) (hn : ns.length ≤ 12) : lheap ns w = decide (faultL ns w = []) := by
  by_cases h : faultL ns w = []
  · rw [decide_eq_true h]
    unfold lheap
    refine List.all_eq_true.mpr fun p hp => ?_
    have hp := List.mem_range.mp hp
    have z : lheapB ns w p = false := by
      unfold lheapB
      refine List.any_eq_false.mpr fun q hq => ?_
      have := no_fault hw hn h p hp q hq
      rw [decide_eq_false (by omega)]
      exact Bool.false_ne_true
    rw [z]
    rfl
  · rw [decide_eq_false h]
    obtain ⟨p, hp⟩ := List.exists_mem_of_ne_nil _ h
    unfold faultL at hp
    obtain ⟨h1, h2⟩ := List.mem_filter.mp hp
    unfold faultB at h2
    obtain ⟨h3, h4⟩ := Bool.and_eq_true_iff.mp h2
    have h3 := of_decide_eq_true h3
    unfold lheap
    refine List.all_eq_false.mpr ⟨p, h1, ?_⟩
    have hp12 : p ≤ 12 := by have := List.mem_range.mp h1; omega
    have z : lheapB ns w p = true := by
      unfold lheapB
      exact List.any_eq_true.mpr ⟨_, par_way w p hw hp12 h3, h4⟩
    rw [z]
    exact Bool.false_ne_true
def keys (ps : List Pr) : List Int := ps.map (·.1)
/-- keys that rise never fall -/
theorem rise_stay {w n : Nat} {R : List Int} (hw : 1 ≤ w ∧ w ≤ 4) (hn : n ≤ 12) (hr : ∀ i, 0 < i → i < n → keyAt R ((i - 1) / w) ≤ keyAt R i) : ∀ k y, y ≤ k → y < n → ∀ x ∈ wayL w y, keyAt R x ≤ keyAt R y
  | k, y, hk, hy, x, hx => by
    by_cases h0 : y = 0
    · have := up_le w (by omega) y (by omega) hw.1 x hx
      rw [show x = y by omega]
      exact Int.le_refl _
    · rw [way_rec w y hw (by omega) (by omega)] at hx
      rcases List.mem_append.mp hx with hx | hx
      · have hd : (y - 1) / w ≤ y - 1 := Nat.div_le_self _ _
        match k, hk with
        | 0, hk => omega
        | k + 1, hk =>
          have h1 := rise_stay hw hn hr k ((y - 1) / w) (by omega) (by omega) x hx
          have h2 := hr y (by omega) hy
          omega
      · rw [List.mem_singleton.mp hx]
        exact Int.le_refl _
theorem lheap_iff {w : Nat} {ks : List Int} (hw : 1 ≤ w ∧ w ≤ 4) (hn : ks.length ≤ 12) : lheap ks w = true ↔ Rise w ks ks.length := by
  have key : lheap ks w = true ↔ ∀ p, p < ks.length → ∀ q ∈ wayL w p, keyAt ks q ≤ keyAt ks p := by
    unfold lheap
    rw [List.all_eq_true]
    refine ⟨fun h p hp q hq => ?_, fun h p hp => ?_⟩
    · have h1 := h p (List.mem_range.mpr hp)
      by_cases hk : keyAt ks q ≤ keyAt ks p
      · exact hk
      · have h2 : lheapB ks w p = true := List.any_eq_true.mpr ⟨q, hq, decide_eq_true (show keyAt ks p < keyAt ks q by omega)⟩
        rw [h2] at h1
        cases h1
    · rw [Bool.not_eq_true', Bool.eq_false_iff]
      intro h2
      obtain ⟨q, hq, h3⟩ := List.any_eq_true.mp h2
      have h3 : keyAt ks p < keyAt ks q := of_decide_eq_true h3
      have := h p (List.mem_range.mp hp) q hq
      omega
  rw [key]
  exact ⟨fun h i h0 hi => h i hi _ (par_way w i hw (by omega) (by omega)), fun h p hp q hq => rise_stay hw hn (fun i a b => h i a b) p p (Nat.le_refl _) hp q hq⟩
theorem mem_vi (i : Nat) (l : List Nat) : inV (V.int (i : Nat)) (vi l) = decide (i ∈ l) := by
  have key : ∀ j : Nat, eqV (V.int (j : Nat)) (V.int (i : Nat)) = decide (j = i) := fun j => by
    show ((j : Int) == (i : Int)) = decide (j = i)
    by_cases h : j = i
    · rw [h, decide_eq_true rfl, beq_self_eq_true]
    · rw [decide_eq_false h]
      exact beq_eq_false_iff_ne.mpr (by omega)
  unfold inV vi
  induction l with
  | nil => rfl
  | cons a l ih =>
    rw [List.map_cons, List.any_cons, ih, key]
    by_cases h : a = i
    · simp [h]
    · simp [h, Ne.symm h]
def natB (p : List Nat) : List Int := p.map fun x => Int.ofNat x
abbrev nv (p : List Nat) : List V := (natB p).map V.int
def RowIn (H : Hp) (a : Addr) (ns : List Int) : Prop := Sq H a (ns.map V.int) ∧ ns.length ≤ 12 ∧ (∀ n ∈ ns, -1000000000 ≤ n ∧ n ≤ 1000000000)
theorem RowIn.same {H H' : Hp} {a : Addr} {ns : List Int} (h : RowIn H a ns) (s : Same H H') : RowIn H' a ns := ⟨h.1.same s, h.2⟩
/-- is_key of an int -/
def spKey : Sp := fun vs H Q _ => ∃ i : Int, vs = [.int i] ∧ Q (.bl (decide (-1000000000 ≤ i ∧ i ≤ 1000000000))) H
theorem ok_key (T : Tx K mg A) : FnOk P w K mg base CX0 3 A.f_is_key A.d_is_key ["thing"] spKey := by
  refine T.F_is_key.ok sc_is_key (fun vs H Q E h => ?_) (fun cdv B outer s H vs Q E hr h => ?_)
  · obtain ⟨i, rfl, _⟩ := h
    rfl
  · obtain ⟨i, rfl, q⟩ := h
    obtain ⟨t, hg⟩ := cst T.c_GREATEST_KEY
    refine ⟨_, pss_one (ps_ret (pe_call (ok_ii T) hr (by rfl) T.m_is_integer_from T.F_is_integer_from.kp (b_ii T) .nil pass0
      (pa_cons (pv 0) (pa_cons (pe_un un_neg (pe_glob (by rfl) hg (relI _ _))) (pa_cons (pe_glob (by rfl) hg (relI _ _)) pa_nil))))), ?_⟩
    exact ⟨_, rfl, _, rfl, _, _, _, rfl, .inl ⟨i, rfl, q⟩⟩
theorem b_key (T : Tx K mg A) : L2.Binds K A.d_is_key ["thing"] [] := T.F_is_key.binds fun _ _ _ _ _ _ us hl => match us, hl with | [_], _ => rfl
theorem Sq.len {K : PySem.W.Frag} {H : Hp} {a : Addr} {xs : List V} (h : Sq H a xs) : SqL K H a xs ∨ SqT K H a xs := h.elim (fun e => .inl (SqL.of e)) fun e => .inr (SqT.of e)
/-- keys go in, a tuple of them comes out -/
def spRow (K : PySem.W.Frag) : Sp := fun vs H Q _ => ∃ (a : Addr) (ns : List Int), vs = [.ref a] ∧ Sq H a (ns.map V.int) ∧ ns.length ≤ 12 ∧ (∀ n ∈ ns, -1000000000 ≤ n ∧ n ≤ 1000000000) ∧
  ∀ H' p, Same H H' → H' p = some (.tup (ns.map V.int)) → Q (.ref p) H'
theorem ok_row (T : Tx K mg A) : FnOk P w K mg base CX0 4 A.f_row_of A.d_row_of ["row"] (spRow K) := by
  refine T.F_row_of.ok sc_row_of (fun vs H Q E h => ?_) (fun cdv B outer s H vs Q E hr h => ?_)
  · obtain ⟨a, ns, rfl, _⟩ := h
    rfl
  · obtain ⟨a, ns, rfl, ha, hl, hk, q⟩ := h
    obtain ⟨t, hg⟩ := cst T.c_MOST_PLACES
    refine ⟨_, pss_cons (ps_if (PW.pt (pw_or (pt_not (pt_val (pe_callB call_isiT (by rfl) T.g_isinstance (by decide +kernel) (pa_cons (pv 0) (pa_cons (pe_tup (pa_cons (pe_bltn (v := .ty "list") (by rfl) T.g_list (by decide +kernel) rfl) (pa_cons (pe_bltn (v := .ty "tuple") (by rfl) T.g_tuple (by decide +kernel) rfl) pa_nil))) pa_nil)))))
        (pw_or1 (pt_cmpR op_gt (pe_callB call_len_seq (by rfl) T.g_len PySem.boot_len (pa_cons (pv 0) pa_nil)) (pe_glob (by rfl) hg (relI _ _)) (nomark _))))) (pss_one ps_never) pss_nil)
      (C8.pss_cut (ps_for PassesOwn.never rfl (pi_enS (by rfl) T.g_enumerate (pa_cons (pv 0) pa_nil)) (pg_tup rfl (pgs_cons (pg_name (i := 1) sc_row_of.nd rfl (Or.inl rfl)) (pgs_cons (pg_name (i := 2) sc_row_of.nd rfl (Or.inl rfl)) pgs_nil)))
        (pss_one (ps_if (pt_not (pt_val (pe_call (ok_key T) hr (by rfl) T.m_is_key T.F_is_key.kp (b_key T) .nil pass0 (pa_cons (pv 2) pa_nil)))) (pss_one ps_never) pss_nil)))
      (pss_one (ps_ret (pe_callTy call_tuple_of (by rfl) T.g_tuple (by decide +kernel) (pa_cons (pv 0) pa_nil))))), ?_⟩
    refine ⟨_, rfl, by show 2 ≤ sizeLine; decide, fun tp htp => ?_⟩
    have ha1 : Sq (upd H tp (.tup [.ty "list", .ty "tuple"])) a (ns.map V.int) := ha.same (Same.up htp)
    have isi : ∃ c b1, TyX K (upd H tp (.tup [.ty "list", .ty "tuple"])) (.ref a) (.type c) ∧ PySem.W.kitOne K (.type c) (.type "list") = some b1 ∧ (b1 = false → PySem.W.kitOne K (.type c) (.type "tuple") = some true) := by
      rcases ha1 with h | h
      · exact ⟨"list", true, .base (.lst h), kit_ty (by decide +kernel), fun z => by cases z⟩
      · exact ⟨"tuple", false, .base (.tup h), kit_ty (by decide +kernel), fun _ => kit_ty (by decide +kernel)⟩
    obtain ⟨c, b1, ty, k1, k2⟩ := isi
    refine ⟨_, tp, _, .type c, [.type "list", .type "tuple"], true, rfl, upd_same, .cons (.ty _) (.cons (.ty _) .nil), ty, kitAny_cons k1 (fun z => kitAny_cons (k2 z) (fun z => by cases z) (fun _ => rfl)) (fun _ => rfl), true, rfl, ?_⟩
    refine iteF ⟨_, rfl, a, _, rfl, ha1.len, _, _, rfl, rfl, _, rfl, ite2 (fun z => ?_) (fun _ => ?_)⟩
    · exfalso
      rw [List.length_map] at z
      have := of_decide_eq_true z
      omega
    refine ⟨fun σ H' => ∃ z y, σ = [some (.ref a), z, y] ∧ Same H H', ?_, ?_⟩
    · rcases ha with ha | ha
      · refine ⟨_, rfl, a, _, rfl, .inl ⟨SqL.of ((Same.up htp) _ _ ha), for_it (walk_enum (xs := ns.map V.int)) (fun i σ H' => ∃ z y, σ = [some (.ref a), z, y] ∧ Same H H') ⟨none, none, rfl, Same.up htp⟩ (fun i σ H' _ ⟨_, _, _, s⟩ => SqL.of (s _ _ ha)) ?_ ?_⟩⟩
        · rintro i v σ H2 H3 hi ⟨z, y, rfl, s⟩ ⟨T', x, x2, rfl, hT, rfl, e1, e2⟩
          obtain ⟨hi', rfl⟩ := ints_at e2
          cases e1
          refine ⟨_, _, rfl, SqT.of upd_same, rfl, _, _, rfl, _, _, rfl, rfl, ?_⟩
          refine ⟨_, rfl, _, rfl, _, rfl, ?_⟩
          rw [decide_eq_true (hk _ (List.getElem_mem hi'))]
          exact iteF ⟨_, _, rfl, s.trans (Same.up hT)⟩
        · rintro σ H2 ⟨z, y, rfl, s⟩
          exact ⟨_, _, rfl, s⟩
      · refine ⟨_, rfl, a, _, rfl, .inr ⟨SqT.of ((Same.up htp) _ _ ha), for_it (walk_enumT (xs := ns.map V.int)) (fun i σ H' => ∃ z y, σ = [some (.ref a), z, y] ∧ Same H H') ⟨none, none, rfl, Same.up htp⟩ (fun i σ H' _ ⟨_, _, _, s⟩ => SqT.of (s _ _ ha)) ?_ ?_⟩⟩
        · rintro i v σ H2 H3 hi ⟨z, y, rfl, s⟩ ⟨T', x, x2, rfl, hT, rfl, e1, e2⟩
          obtain ⟨hi', rfl⟩ := ints_at e2
          cases e1
          refine ⟨_, _, rfl, SqT.of upd_same, rfl, _, _, rfl, _, _, rfl, rfl, ?_⟩
          refine ⟨_, rfl, _, rfl, _, rfl, ?_⟩
          rw [decide_eq_true (hk _ (List.getElem_mem hi'))]
          exact iteF ⟨_, _, rfl, s.trans (Same.up hT)⟩
        · rintro σ H2 ⟨z, y, rfl, s⟩
          exact ⟨_, _, rfl, s⟩
    · rintro σ H2 ⟨z, y, rfl, s⟩
      rcases ha with ha | ha
      · exact ⟨_, rfl, a, _, rfl, .inl ⟨SqL.of (s _ _ ha), fun p hp => q _ _ (s.trans (Same.up hp)) upd_same⟩⟩
      · exact ⟨_, rfl, a, _, rfl, .inr ⟨SqT.of (s _ _ ha), q _ _ s (s _ _ ha)⟩⟩
theorem b_row (T : Tx K mg A) : L2.Binds K A.d_row_of ["row"] [] := T.F_row_of.binds fun _ _ _ _ _ _ us hl => match us, hl with | [_], _ => rfl
def spOf (K : PySem.W.Frag) (C : Addr) : Sp := fun vs H Q _ => ∃ (a w : Nat) (ns : List Int), vs = [.ref C, .ref a, .int w] ∧ (1 ≤ w ∧ w ≤ 4) ∧ Sq H a (ns.map V.int) ∧ ns.length ≤ 12 ∧ (∀ n ∈ ns, -1000000000 ≤ n ∧ n ≤ 1000000000) ∧
  ∀ (H' : Hp) p, Same H H' → H p = none → TreeAt C H' p ns.length w → Q (.ref p) H'
theorem ok_of (T : Tx K mg A) : FnOk P w K mg base CX0 6 A.f_t_of A.d_t_of ["cls", "row", "arms"] (spOf K A.C) := by
  obtain ⟨mv, kb⟩ := kb_init T
  refine T.F_t_of.ok sc_t_of (fun vs H Q E h => ?_) (fun cdv B outer s H vs Q E hr h => ?_)
  · obtain ⟨a, w, ns, rfl, _⟩ := h
    rfl
  · obtain ⟨a, w, ns, rfl, hw, ha, hl, hk, q⟩ := h
    refine ⟨_, PSs.nox (pss_cons (ps_expr (pe_call (ok_ca T) (hr.mono (by decide)) (by rfl) T.m_check_arms T.F_check_arms.kp (b_ca T) .nil pass0 (pa_cons (pv 2) pa_nil)))
      (pss_one (ps_ret (pe_makeLK (i := 0) T.mkC (ok_init T) hr kb pass0 (pa_cons (pe_callB call_len_seq (by rfl) T.g_len PySem.boot_len (pa_cons (pe_call (ok_row T) (hr.mono (by decide)) (by rfl) T.m_row_of T.F_row_of.kp (b_row T) .nil pass0 (pa_cons (pv 1) pa_nil)) pa_nil)) pa_nil)
        (pk_cons (pv 2) pk_nil) rfl (Or.inl rfl))))), ?_⟩
    refine ⟨_, rfl, _, rfl, ⟨by omega, by omega⟩, rfl, _, rfl, a, ns, rfl, ha, hl, hk, fun H1 p s1 hp => ?_⟩
    refine ⟨p, _, rfl, .inr (SqT.of hp), _, rfl, rfl, rfl, fun x dx nx ndx nex => ?_⟩
    refine ⟨x, dx, ns.length, w, by rw [List.length_map]; rfl, hl, hw, upd_same, fun H2 k2 t2 => ⟨rfl, q H2 x (fun b o e => k2 b o ?_ (ne_of_none (s1 _ _ e) nx)) (s1.free nx) t2⟩⟩
    rw [upd_ne (ne_of_none (s1 _ _ e) nx), upd_ne (ne_of_none (s1 _ _ e) ndx)]
    exact s1 _ _ e
theorem b_par (T : Tx K mg A) : L2.Binds K A.d_t_parent ["self", "place"] [] := T.F_t_parent.binds fun _ _ _ _ _ _ us hl => match us, hl with | [_, _], _ => rfl
/-- the parent as the program says it -/
def parV (w p : Nat) : V := if p = 0 then .non else .int ((p - 1) / w : Nat)
def spPar (C : Addr) : Sp := fun vs H Q _ => ∃ (p n w i : Nat), vs = [.ref p, .int i] ∧ TreeAt C H p n w ∧ i < n ∧ Q (parV w i) H
theorem ok_par (T : Tx K mg A) : FnOk P w K mg base CX0 4 A.f_t_parent A.d_t_parent ["self", "place"] (spPar A.C) := by
  refine T.F_t_parent.ok sc_t_parent (fun vs H Q E h => ?_) (fun cdv B outer s H vs Q E hr h => ?_)
  · obtain ⟨p, n, w, i, rfl, _⟩ := h
    rfl
  · obtain ⟨p, n, w, i, rfl, t, hi, q⟩ := h
    obtain ⟨dx, l, h1, h2⟩ := t.ob
    refine ⟨_, pss_cons (ps_expr (pe_call (ok_cp T) hr (by rfl) T.m_check_place T.F_check_place.kp (b_cp T) .nil pass0 (pa_cons (pv 1) (pa_cons (pe_fld (pv 0) rfl) pa_nil))))
      (pss_cons (ps_if (pt_cmpR op_eq (pv 1) pe_int (nomark _)) (pss_one (ps_ret pe_non)) pss_nil)
      (pss_one (ps_ret (pe_op op_fdivN (pe_op op_sub (pv 1) pe_int) (pe_fld (pv 0) rfl))))), ?_⟩
    refine ⟨_, rfl, _, rfl, p, A.C, dx, _, _, rfl, h1, T.cT, T.nMany, tf_many _ _ _, _, _, rfl, ⟨by omega, by omega⟩, ?_⟩
    refine ⟨_, rfl, rfl, _, rfl, ?_⟩
    by_cases h0 : i = 0
    · rw [decide_eq_true (show V.int (i : Nat) = V.int 0 by rw [h0]; rfl)]
      refine iteT ?_
      unfold parV at q
      rw [if_pos h0] at q
      exact q
    · rw [decide_eq_false (show ¬ V.int (i : Nat) = V.int 0 by intro z; injection z with z; omega)]
      refine iteF ?_
      refine ⟨_, rfl, _, _, rfl, rfl, _, rfl, p, A.C, dx, _, _, rfl, h1, T.cT, T.nArms, tf_arms _ _ _, _, _, rfl, rfl, ⟨by have := t.hw; omega, by have := t.hw; omega⟩, ?_⟩
      unfold parV at q
      rw [if_neg h0] at q
      have e : Int.fdiv ((i : Int) - 1) (w : Int) = ((i - 1) / w : Nat) := by
        rw [Int.fdiv_eq_ediv_of_nonneg _ (by omega), show ((i : Int) - 1) = ((i - 1 : Nat) : Int) by omega]
        rfl
      show Q (V.int (Int.fdiv ((i : Int) - 1) (w : Int))) H
      rw [e]
      exact q
theorem kb_of (T : Tx K mg A) : ∃ mv : List Value, KBn K A.d_t_of ["cls", "row", "arms"] 2 ["arms"] (fun us ws => us ++ (mv ++ ws)) (fun vs zs => vs ++ zs) := by
  obtain ⟨mv, h⟩ := T.F_t_of.kbinds0 (ps := ["cls", "row", "arms"]) 2 ["arms"] [] (fun us mv ws => us ++ (mv ++ ws)) (by simp) (by simp) (fun r1 r2 r3 => r1.append (r2.append r3))
    (fun D doc pm an cdv ct us mv ws h1 h2 h3 => by
      match us, mv, ws, h1, h2, h3 with
      | [a, b], [], [c], _, _, _ => rfl)
  exact ⟨mv, h⟩
theorem ix_sq {H : Hp} {a : Addr} {ns : List Int} {i : Nat} {Q : VK} (h : Sq H a (ns.map V.int)) (hi : i < ns.length) (q : Q (.int (ns.getD i 0)) H) : rIx K (.ref a) (.int i) H Q := by
  have e : (ns.map V.int)[i]? = some (V.int (ns.getD i 0)) := by
    rw [List.getElem?_map, List.getElem?_eq_getElem hi, List.getD_eq_getElem?_getD, List.getElem?_eq_getElem hi]
    rfl
  rcases h with h | h
  · exact .inl ⟨a, _, _, _, rfl, rfl, SqL.of h, atI_nat e, q⟩
  · exact .inr (.inl ⟨a, _, _, _, rfl, rfl, SqT.of h, atI_nat e, q⟩)
theorem filt_pick (l : List Nat) (b : Nat → Bool) : vi (l.filter b) = l.filterMap fun j => if b j = true then some (V.int (j : Nat)) else none := by
  unfold vi
  induction l with
  | nil => rfl
  | cons a l ih =>
    by_cases h : b a = true
    · rw [List.filter_cons_of_pos h, List.map_cons, ih, List.filterMap_cons, if_pos h]
    · rw [List.filter_cons_of_neg h, ih, List.filterMap_cons, if_neg h]
def spFau : Sp := fun vs H Q _ => ∃ (a w : Nat) (ns : List Int), vs = [.ref a, .int w] ∧ (1 ≤ w ∧ w ≤ 4) ∧ RowIn H a ns ∧ ∀ H' q, Same H H' → H q = none → H' q = some (.lst (vi (faultL ns w))) → Q (.ref q) H'
theorem ok_fau (T : Tx K mg A) : FnOk P w K mg base CX0 7 A.f_faults A.d_faults ["row", "arms"] spFau := by
  obtain ⟨mo, ko⟩ := kb_of T
  refine T.F_faults.ok sc_faults (fun vs H Q E h => ?_) (fun cdv B outer s H vs Q E hr h => ?_)
  · obtain ⟨a, w, ns, rfl, _⟩ := h
    rfl
  · obtain ⟨a, w, ns, rfl, hw, hrow, q⟩ := h
    have nd := sc_faults.nd
    refine ⟨_, PSs.nox (pss_cons (ps_set (i := 2) nd rfl (Or.inr rfl) (pe_cmethK (pe_glob (v := .ref A.C) (by rfl) T.mC (relR _)) T.cr T.cof (ok_of T) hr ko pass0 (pa_cons (pv 0) pa_nil) (pk_cons (pv 1) pk_nil)))
      (pss_one (ps_ret (pe_lc (own := [("place", 3)]) (g := gName 3) rfl nd (pi_own T.D_t___iter__ (ok_iter T) (hr.mono (by decide)) (b_iter T) (pv 2)) (blkOk_by (own := [("place", 3)]) (N := ["row", "arms", "tree", "place"]) (sc := defScope s_faults) (by decide +kernel))
        (fun _ _ _ _ _ => pg_name (i := 3) nd rfl (Or.inl rfl))
        (fun _ _ _ _ _ => pts_one (PW.pt (pw_and (pt_cmpR op_gt (pv 3) pe_int (nomark _)) (pw_and1 (pt_cmpR op_lt (pe_ix (r := rIx K) ix_seq (pv 0) (pv 3) (fun _ _ => rfl))
          (pe_ix (r := rIx K) ix_seq (pv 0) (pe_meth (pv 2) T.cT T.M_t_parent (ok_par T) (hr.mono (by decide)) (b_par T) .nil pass0 (pa_cons (pv 3) pa_nil)) (fun _ _ => rfl)) (nomark _))))))
        (fun _ _ _ _ _ => pv 3))))), ?_⟩
    refine ⟨rfl, _, rfl, _, rfl, rfl, rfl, a, w, ns, rfl, hw, hrow.1, hrow.2.1, hrow.2.2, fun H1 p s1 p0 t1 => ?_⟩
    obtain ⟨dx, l, h1, h2⟩ := t1.ob
    have noP : (tf ns.length w l).lookup ("parent" : Str) = none := tf_no _ _ _ (by decide +kernel) (by decide +kernel) (by decide +kernel)
    have hlen := hrow.2.1
    refine ⟨_, rfl, p, dx, _, l, _, rfl, h1, tf_pl _ _ _, SqT.of h2, fun D hD => ?_⟩
    refine lc_it (walk_tup (xs := pl ns.length)) (PickI H1 D (List.range ns.length) fun j => if faultB ns w j = true then some (V.int (j : Nat)) else none) (pick_start hD) (fun k H' _ h => SqT.of (h.s _ _ h2)) ?_ ?_
    · rintro k x H2 H3 hk pk ⟨rfl, ex⟩
      obtain ⟨hk', rfl⟩ := map_at ex
      rw [List.getElem_range]
      have hk2 : k < ns.length := by rw [List.length_range] at hk'; exact hk'
      have hrow3 := (hrow.1.same s1).same pk.s
      refine ⟨rfl, _, rfl, _, _, rfl, rfl, _, rfl, ?_⟩
      by_cases h0 : 0 < k
      · rw [decide_eq_true (show (0 : Int) < (k : Nat) by omega)]
        have ep : parV w k = V.int ((k - 1) / w : Nat) := by unfold parV; rw [if_neg (by omega)]
        have hlt : (k - 1) / w < k := Nat.lt_of_le_of_lt (Nat.div_le_self _ _) (by omega)
        refine iteT ⟨_, rfl, _, rfl, ix_sq hrow3 hk2 ⟨_, rfl, _, rfl, p, dx, _, rfl, pk.s _ _ h1, noP, _, rfl, p, ns.length, w, k, rfl, t1.same pk.s, hk2, ?_⟩⟩
        rw [ep]
        refine ix_sq hrow3 (by omega) ⟨_, _, rfl, rfl, _, rfl, ?_⟩
        have ef : faultB ns w k = decide (ns.getD k 0 < ns.getD ((k - 1) / w) 0) := by unfold faultB; rw [decide_eq_true h0, Bool.true_and]
        by_cases hf : ns.getD k 0 < ns.getD ((k - 1) / w) 0
        · rw [decide_eq_true hf] at ef ⊢
          exact iteT ⟨_, rfl, pick_yes hk' (by rw [List.length_range]; omega) (by rw [List.getElem_range, ef]; rfl) (Same.refl _) pk⟩
        · rw [decide_eq_false hf] at ef ⊢
          exact iteF (pick_no hk' (by rw [List.getElem_range, ef]; rfl) (Same.refl _) pk)
      · rw [decide_eq_false (show ¬ (0 : Int) < (k : Nat) by omega)]
        have ef : faultB ns w k = false := by unfold faultB; rw [decide_eq_false h0, Bool.false_and]
        exact iteF (iteF (pick_no hk' (by rw [List.getElem_range, ef]; rfl) (Same.refl _) pk))
    · intro H2 pk
      have ac := pick_end (by rw [pl_len, List.length_range]) pk
      refine q _ D (s1.trans ac.s) (s1.free hD) ?_
      rw [ac.a]
      unfold faultL
      rw [filt_pick]
theorem kb_fau (T : Tx K mg A) : ∃ mv : List Value, KBn K A.d_faults ["row", "arms"] 1 ["arms"] (fun us ws => us ++ (mv ++ ws)) (fun vs zs => vs ++ zs) := by
  obtain ⟨mv, h⟩ := T.F_faults.kbinds0 (ps := ["row", "arms"]) 1 ["arms"] [] (fun us mv ws => us ++ (mv ++ ws)) (by simp) (by simp) (fun r1 r2 r3 => r1.append (r2.append r3))
    (fun D doc pm an cdv ct us mv ws h1 h2 h3 => by
      match us, mv, ws, h1, h2, h3 with
      | [a], [], [c], _, _, _ => rfl)
  exact ⟨mv, h⟩
def spIsH : Sp := fun vs H Q _ => ∃ (a w : Nat) (ns : List Int), vs = [.ref a, .int w] ∧ (1 ≤ w ∧ w ≤ 4) ∧ RowIn H a ns ∧ ∀ H', Same H H' → Q (.bl (decide (faultL ns w = []))) H'
theorem ok_ish (T : Tx K mg A) : FnOk P w K mg base CX0 8 A.f_is_heap A.d_is_heap ["row", "arms"] spIsH := by
  obtain ⟨mo, ko⟩ := kb_fau T
  refine T.F_is_heap.ok sc_is_heap (fun vs H Q E h => ?_) (fun cdv B outer s H vs Q E hr h => ?_)
  · obtain ⟨a, w, ns, rfl, _⟩ := h
    rfl
  · obtain ⟨a, w, ns, rfl, hw, hrow, q⟩ := h
    refine ⟨_, PSs.nox (pss_one (ps_ret (pe_notT (pe_callN (ok_fau T) hr (by rfl) T.m_faults T.F_faults.kp ko pass0 (pa_cons (pv 0) pa_nil) (pk_cons (pv 1) pk_nil))))), ?_⟩
    refine ⟨_, rfl, _, rfl, rfl, rfl, a, w, ns, rfl, hw, hrow, fun H1 r s1 r0 hr1 => ?_⟩
    refine ⟨!(vi (faultL ns w)).isEmpty, .inl ⟨_, SqL.of hr1, rfl⟩, ?_⟩
    have e : (!(!(vi (faultL ns w)).isEmpty)) = decide (faultL ns w = []) := by
      rw [Bool.not_not]
      unfold vi
      cases faultL ns w with
      | nil => rfl
      | cons x l => rfl
    rw [e]
    exact q _ s1
theorem ints_dp (K : PySem.W.Frag) (H : Hp) : ∀ ns : List Int, DpAll K H (ns.map V.int) (ns.map PyData.int)
  | [] => .nil
  | n :: ns => .cons (.int n) (ints_dp K H ns)
theorem shaped_ints (ns : List Int) : SeqAt.shaped (.list (ns.map PyData.int)) = true := by
  have h1 : ∀ ms : List Int, PyData.canLayAll0 (ms.map PyData.int) = true := fun ms => by
    induction ms with
    | nil => rfl
    | cons m ms ih => rw [List.map_cons, PyData.canLayAll0, ih]; rfl
  have h2 : ∀ ms : List Int, PyData.depthAll (ms.map PyData.int) ≤ 1 := fun ms => by
    induction ms with
    | nil => simp [PyData.depthAll]
    | cons m ms ih =>
      simp only [List.map_cons, PyData.depthAll, PyData.depth]
      omega
  have h3 : PyData.depth (.list (ns.map PyData.int)) ≤ 64 := by
    have := h2 ns
    simp only [PyData.depth]
    omega
  unfold SeqAt.shaped
  rw [decide_eq_true h3, Bool.and_true]
  simp only [PyData.canLay0]
  exact h1 ns
end
end Tw

set_option Elab.async false
set_option linter.all false
set_option maxRecDepth 100000
set_option maxHeartbeats 2000000
namespace Tw
open PySem PySem.Spec PyProof.Rows L2
section
variable {P : Program} {w : World} {K : PySem.W.Frag} {mg : Str → Option Value} {base : Heap} {A : Ad}
open LamX (ExtN Tabs TabS)
theorem cr_or {X : Cx} {f : Value} {r1 r2 : List V → Hp → VK → Prop} (h1 : CallR X f r1) (h2 : CallR X f r2) : CallR X f (fun vs H Q => r1 vs H Q ∨ r2 vs H Q) := by
  intro pins s σ H vs us Q I rv h
  rcases h with h | h
  · exact h1 pins s σ H vs us Q I rv h
  · exact h2 pins s σ H vs us Q I rv h
theorem sort_sq {K : PySem.W.Frag} {H : Hp} {r : Addr} {ks : List Int} {Q : VK} (h : Sq H r (ks.map V.int)) (q : ∀ (ns' : List Int) (p : Addr), ns'.Perm ks → ns'.Pairwise (· ≤ ·) → H p = none → Q (.ref p) (upd H p (.lst (ns'.map V.int)))) : rSortedI K [.ref r] H Q ∨ rSortedTu K [.ref r] H Q := by
  rcases h with h | h
  · exact .inl ⟨r, ks, rfl, SqL.of h, q⟩
  · exact .inr ⟨r, ks, rfl, SqT.of h, q⟩
theorem refl_of {d : PyData} (h : SeqAt.shaped d = true) : PyData.eqv d d = true := PySem.SeqAt.eqv_refl d (SeqAt.canLay_of_shaped h)
theorem pi_or {X : Cx} {tg e : Expr} {w1 w2 : TI} (h1 : PI X tg e w1) (h2 : PI X tg e w2) : PI X tg e (fun σ H R => w1 σ H R ∨ w2 σ H R) :=
  ⟨fun pins s σ H R I h => h.elim (h1.run pins s σ H R I) (h2.run pins s σ H R I)⟩
theorem nv_len (p : List Nat) : (nv p).length = p.length := by
  unfold nv natB
  rw [List.length_map, List.length_map]
theorem nv_at {p : List Nat} {i : Nat} {x : V} (h : (nv p)[i]? = some x) : ∃ hi : i < p.length, x = V.int (p[i] : Nat) := by
  unfold nv natB at h
  rw [List.getElem?_map, List.getElem?_map] at h
  cases e : p[i]? with
  | none =>
    rw [e] at h
    cases h
  | some u =>
    rw [e] at h
    obtain ⟨hi, rfl⟩ := List.getElem?_eq_some_iff.mp e
    exact ⟨hi, (Option.some.inj h).symm⟩
theorem nv_rg (n : Nat) : rgV 0 (n : Int) = nv (List.range n) := by
  unfold rgV nv natB
  rw [show ((n : Int) - 0).toNat = n by omega, List.map_map]
  exact congrArg (fun f => (List.range n).map f) (funext fun i => by rw [Int.zero_add]; rfl)
theorem full_bnd {p : List Nat} (h : p.Perm (List.range p.length)) {i : Nat} (hi : i < p.length) : p[i] < p.length := List.mem_range.mp (h.mem_iff.mp (List.getElem_mem hi))
theorem sorted_one {xs ys : List Int} (hp : xs.Perm ys) (h1 : xs.Pairwise (· ≤ ·)) (h2 : ys.Pairwise (· ≤ ·)) : xs = ys := List.Perm.eq_of_pairwise (fun x y _ _ h1 h2 => Int.le_antisymm h1 h2) h1 h2 hp
theorem full_srt {p : List Nat} (h : p.Perm (List.range p.length)) {ns : List Int} (h1 : ns.Perm (natB p)) (h2 : ns.Pairwise (· ≤ ·)) : ns = natB (List.range p.length) := by
  refine sorted_one (h1.trans ?_) h2 ?_
  · unfold natB
    exact h.map _
  · unfold natB
    rw [List.pairwise_map]
    exact List.pairwise_lt_range.imp fun h => Int.ofNat_le.mpr (Nat.le_of_lt h)
theorem repl_all (n : Nat) : (List.replicate n true).all id = true := by
  rw [List.all_eq_true]
  intro x hx
  rw [(List.mem_replicate.mp hx).2]
  rfl
def spFull : Sp := fun vs H Q _ => ∃ (a : Addr) (p : List Nat), vs = [.ref a, .int (p.length : Nat)] ∧ Sq H a (nv p) ∧ p.length ≤ 12 ∧ p.Perm (List.range p.length) ∧ ∀ H', Same H H' → Q (.bl true) H'
theorem ok_full (T : Tx K mg A) : FnOk P w K mg base CX0 3 A.f_is_full A.d_is_full ["thing", "many"] spFull := by
  refine T.F_is_full.ok sc_is_full (fun vs H Q E h => ?_) (fun cdv B outer s H vs Q E hr h => ?_)
  · obtain ⟨a, p, rfl, _⟩ := h
    rfl
  · obtain ⟨a, p, rfl, ha, h12, hp, q⟩ := h
    have nd := sc_is_full.nd
    have hu := hr.units
    refine ⟨_, (pss_one (ps_ret (pe_and (pe_callB (cr_all rfl) (by rfl) T.g_all (by decide +kernel) (pa_cons (pe_lc (own := [("item", 2)]) (g := gName 2) (tt := tYes) rfl nd (pi_or (pi_list (pv 0)) (pi_tup (pv 0))) (blkOk_by (own := [("item", 2)]) (N := ["thing", "many", "item"]) (sc := (defScope s_is_full)) (by decide +kernel)) (fun _ _ _ _ _ => pg_name (i := 2) nd rfl (Or.inl rfl)) (fun _ _ _ _ _ => pts_nil) (fun _ _ _ _ _ => (pe_call (ok_ii T) (hr.mono (by decide)) (by rfl) T.m_is_integer_from T.F_is_integer_from.kp (b_ii T) .nil pass0 (pa_cons (pv 2) (pa_cons pe_int (pa_cons (pe_op op_sub (pv 1) pe_int) pa_nil)))))) pa_nil)) (pe_one (pe_cmpR (op_eqD hu) (pe_callB (cr_or cr_sortedI cr_sortedTu) (by rfl) T.g_sorted (by decide +kernel) (pa_cons (pv 0) pa_nil)) (pe_listRg rfl (by rfl) T.g_list (prg_1 (by rfl) T.g_range (pv 1))) (nomark _)))))), ?_⟩
    rcases id ha with h1 | h1
    · refine Or.inl ⟨_, rfl, a, rfl, ⟨_, SqL.of h1⟩, fun D nD => ?_⟩
      refine lc_it (walk_list (xs := nv p)) (fun i H' => Acc H D (List.replicate i (V.bl true)) H') (Acc.start nD) (fun i H' _ ac => SqL.of (ac.s _ _ h1)) ?_ ?_
      · rintro j y H2o H2 hj ac ⟨rfl, hy⟩
        obtain ⟨hj2, rfl⟩ := nv_at hy
        have hb := full_bnd hp hj2
        refine ⟨rfl, iteT (B := Acc H D (List.replicate (j + 1) (V.bl true)) H2) ?_⟩
        refine ⟨_, rfl, _, rfl, _, _, rfl, rfl, _, _, _, rfl, Or.inl ⟨_, rfl, ?_⟩⟩
        rw [decide_eq_true (show (0 : Int) ≤ (p[j] : Nat) ∧ ((p[j] : Nat) : Int) ≤ (p.length : Int) - 1 by omega)]
        refine ⟨_, ac.a, by rw [List.length_replicate, sizeLine_eq]; omega, ?_⟩
        rw [show List.replicate (j + 1) (V.bl true) = List.replicate j (V.bl true) ++ [V.bl true] from List.replicate_succ']
        exact ac.push
      · intro H2 ac
        rw [nv_len] at ac
        refine ⟨D, List.replicate p.length true, rfl, SqL.of (by rw [ac.a, List.map_replicate]), ?_⟩
        rw [repl_all]
        refine ⟨true, rfl, iteT ?_⟩
        refine ⟨_, rfl, sort_sq (ha.same ac.s) fun ns' q2 perm srt n2 => ?_⟩
        have s2 := ac.s.trans (Same.up (o := .lst (ns'.map V.int)) n2)
        refine ⟨_, rfl, _, rfl, RgOk.of_le (by omega) (by omega) (by omega) (by omega), fun l nl => ?_⟩
        rw [full_srt hp perm srt] at nl ⊢
        rw [nv_rg]
        refine ⟨.list ((natB (List.range p.length)).map PyData.int), .list ((natB (List.range p.length)).map PyData.int), .lst (SqL.of ((Same.up nl) _ _ upd_same)) (ints_dp _ _ _), .lst (SqL.of upd_same) (ints_dp _ _ _), shaped_ints _, shaped_ints _, ?_⟩
        rw [refl_of (shaped_ints _)]
        rw [full_srt hp perm srt] at s2
        exact q _ (s2.trans (Same.up nl))
    · refine Or.inr ⟨_, rfl, a, rfl, ⟨_, SqT.of h1⟩, fun D nD => ?_⟩
      refine lc_it (walk_tup (xs := nv p)) (fun i H' => Acc H D (List.replicate i (V.bl true)) H') (Acc.start nD) (fun i H' _ ac => SqT.of (ac.s _ _ h1)) ?_ ?_
      · rintro j y H2o H2 hj ac ⟨rfl, hy⟩
        obtain ⟨hj2, rfl⟩ := nv_at hy
        have hb := full_bnd hp hj2
        refine ⟨rfl, iteT (B := Acc H D (List.replicate (j + 1) (V.bl true)) H2) ?_⟩
        refine ⟨_, rfl, _, rfl, _, _, rfl, rfl, _, _, _, rfl, Or.inl ⟨_, rfl, ?_⟩⟩
        rw [decide_eq_true (show (0 : Int) ≤ (p[j] : Nat) ∧ ((p[j] : Nat) : Int) ≤ (p.length : Int) - 1 by omega)]
        refine ⟨_, ac.a, by rw [List.length_replicate, sizeLine_eq]; omega, ?_⟩
        rw [show List.replicate (j + 1) (V.bl true) = List.replicate j (V.bl true) ++ [V.bl true] from List.replicate_succ']
        exact ac.push
      · intro H2 ac
        rw [nv_len] at ac
        refine ⟨D, List.replicate p.length true, rfl, SqL.of (by rw [ac.a, List.map_replicate]), ?_⟩
        rw [repl_all]
        refine ⟨true, rfl, iteT ?_⟩
        refine ⟨_, rfl, sort_sq (ha.same ac.s) fun ns' q2 perm srt n2 => ?_⟩
        have s2 := ac.s.trans (Same.up (o := .lst (ns'.map V.int)) n2)
        refine ⟨_, rfl, _, rfl, RgOk.of_le (by omega) (by omega) (by omega) (by omega), fun l nl => ?_⟩
        rw [full_srt hp perm srt] at nl ⊢
        rw [nv_rg]
        refine ⟨.list ((natB (List.range p.length)).map PyData.int), .list ((natB (List.range p.length)).map PyData.int), .lst (SqL.of ((Same.up nl) _ _ upd_same)) (ints_dp _ _ _), .lst (SqL.of upd_same) (ints_dp _ _ _), shaped_ints _, shaped_ints _, ?_⟩
        rw [refl_of (shaped_ints _)]
        rw [full_srt hp perm srt] at s2
        exact q _ (s2.trans (Same.up nl))
theorem b_full (T : Tx K mg A) : L2.Binds K A.d_is_full ["thing", "many"] [] := T.F_is_full.binds fun _ _ _ _ _ _ us hl => match us, hl with | [_, _], _ => rfl
theorem kih (T : Tx K mg A) : ∃ mv : List Value, KBn K A.d_is_heap ["row", "arms"] 1 ["arms"] (fun us ws => us ++ (mv ++ ws)) (fun vs zs => vs ++ zs) := by
  obtain ⟨mv, h⟩ := T.F_is_heap.kbinds0 (ps := ["row", "arms"]) 1 ["arms"] [] (fun us mv ws => us ++ (mv ++ ws)) (by simp) (by simp) (fun r1 r2 r3 => r1.append (r2.append r3))
    (fun D doc pm an cdv ct us mv ws h1 h2 h3 => by
      match us, mv, ws, h1, h2, h3 with
      | [a], [], [c], _, _, _ => rfl)
  exact ⟨mv, h⟩
theorem natB_len (p : List Nat) : (natB p).length = p.length := by
  unfold natB
  rw [List.length_map]
theorem perm_row {n : Nat} {l : List Nat} {H : Hp} {a : Addr} (h : l.Perm (List.range n)) (hn : n ≤ 12) (ha : H a = some (.tup (nv l))) : RowIn H a (natB l) ∧ l.length = n := by
  have hl : l.length = n := by
    have := h.length_eq
    rw [List.length_range] at this
    exact this
  refine ⟨⟨.inr ha, by rw [natB_len]; omega, fun z hz => ?_⟩, hl⟩
  unfold natB at hz
  obtain ⟨x, hx, rfl⟩ := List.mem_map.mp hz
  have := List.mem_range.mp (h.mem_iff.mp hx)
  refine ⟨by show (-1000000000 : Int) ≤ (x : Int); omega, by show (x : Int) ≤ 1000000000; omega⟩
def spIfh : Sp := fun vs H Q _ => ∃ (a n w : Nat) (l : List Nat), vs = [.ref a, .int n, .int w] ∧ H a = some (.tup (nv l)) ∧ n ≤ 12 ∧ (1 ≤ w ∧ w ≤ 4) ∧ l.Perm (List.range n) ∧ faultL (natB l) w = [] ∧ ∀ H' : Hp, Same H H' → Q (.bl true) H'
theorem ok_ifh (T : Tx K mg A) : FnOk P w K mg base CX0 9 A.f_is_full_heap A.d_is_full_heap ["row", "many", "arms"] spIfh := by
  obtain ⟨mi, kih⟩ := kih T
  refine T.F_is_full_heap.ok sc_is_full_heap (fun vs H Q E h => ?_) (fun cdv B outer s H vs Q E hr h => ?_)
  · obtain ⟨a, n, w, l, rfl, _⟩ := h
    rfl
  · obtain ⟨a, n, w, l, rfl, ha, hn, hw, hp, hf, q⟩ := h
    obtain ⟨hrow, hl⟩ := perm_row hp hn ha
    subst hl
    refine ⟨_, (pss_one (ps_ret (pe_and (pe_call (ok_full T) (hr.mono (by decide)) (by rfl) T.m_is_full T.F_is_full.kp (b_full T) .nil pass0 (pa_cons (pv 0) (pa_cons (pv 1) pa_nil))) (pe_one (pe_callN (ok_ish T) (hr.mono (by decide)) (by rfl) T.m_is_heap T.F_is_heap.kp kih pass0 (pa_cons (pv 0) pa_nil) (pk_cons (pv 2) pk_nil)))))), ?_⟩
    refine ⟨_, rfl, _, rfl, a, l, rfl, .inr ha, hn, hp, fun H1 s1 => ⟨_, rfl, iteT ?_⟩⟩
    refine ⟨_, rfl, _, rfl, rfl, rfl, a, w, natB l, rfl, hw, hrow.same s1, fun H2 s2 => ?_⟩
    rw [decide_eq_true hf]
    exact q _ (s1.trans s2)
theorem set_lt : ∀ {ks : List Int}, ¬ ks.Nodup → ∃ ms : List Int, ms.length < ks.length ∧ ∀ x ∈ ks, x ∈ ms
  | [], h => absurd List.nodup_nil h
  | a :: l, h => by
    by_cases ha : a ∈ l
    · exact ⟨l, by rw [List.length_cons]; omega, fun x hx => (List.mem_cons.mp hx).elim (fun e => e ▸ ha) id⟩
    · obtain ⟨ms, h1, h2⟩ := set_lt (ks := l) fun z => h (List.nodup_cons.mpr ⟨ha, z⟩)
      exact ⟨a :: ms, by rw [List.length_cons, List.length_cons]; omega, fun x hx => (List.mem_cons.mp hx).elim (fun e => e ▸ List.mem_cons_self) fun z => List.mem_cons_of_mem _ (h2 x z)⟩
theorem set_count {ks us : List Int} (hd : us.Nodup) (hm : ∀ k, decide (k ∈ ks) = true ↔ k ∈ us) : us.length = ks.length ↔ ks.Nodup := by
  refine ⟨fun h => ?_, fun h => ?_⟩
  · refine Classical.byContradiction fun hn => ?_
    obtain ⟨ms, h1, h2⟩ := set_lt hn
    have := List.Nodup.length_le_of_subset hd (l₂ := ms) fun x hx => h2 x (of_decide_eq_true ((hm x).mpr hx))
    omega
  · exact ((List.perm_ext_iff_of_nodup hd h).mpr fun x => ⟨fun z => of_decide_eq_true ((hm x).mpr z), fun z => (hm x).mp (decide_eq_true z)⟩).length_eq
theorem vi_flat (l : List Nat) : (vi l).all flatV = true := by
  unfold vi
  rw [List.all_map]
  exact List.all_eq_true.mpr fun _ _ => rfl
def zI (X : List Nat) : List Int := X.map fun (x : Nat) => ((x : Nat) : Int)
theorem zI_vi (X : List Nat) : (zI X).map V.int = vi X := by
  unfold zI vi
  rw [List.map_map]
  rfl
end
end Tw

set_option Elab.async false
set_option linter.all false
set_option maxRecDepth 100000
set_option maxHeartbeats 2000000
namespace Tw
open PySem PySem.Spec PyProof.Rows L2
section
variable {P : Program} {w : World} {K : PySem.W.Frag} {mg : Str → Option Value} {base : Heap} {A : Ad}
open LamX (ExtN Tabs TabS)
/-! what is shown: ok_ifh b_ifh spIfh lheap_iff lheap_fault Rise keyAt spCb Sq nv natB AllT AllT.start AllT.push AllT.same AllT.le AllT.s PrsAt PrsAt.same prs_get ints_at walk_tup fdF_row fdC_first fdC_last fdC_places AtF AtC zI zI_vi mem_vi vi_flat vi vi_len set_count spII sizeLine_eq -/
def hpL (f : Nat → Nat) (n : Nat) : List Nat := (List.range n).map f
theorem hpL_len (f : Nat → Nat) (n : Nat) : (hpL f n).length = n := by
  unfold hpL
  rw [List.length_map, List.length_range]
theorem hpB_at {f : Nat → Nat} {n p : Nat} (h : p < n) : keyAt (natB (hpL f n)) p = (f p : Int) := by
  unfold keyAt natB hpL
  rw [List.getD_eq_getElem?_getD, List.getElem?_map, List.getElem?_map, List.getElem?_range h]
  rfl
theorem hpB_len (f : Nat → Nat) (n : Nat) : (natB (hpL f n)).length = n := by
  unfold natB
  rw [List.length_map, hpL_len]
theorem nd_range {n : Nat} {xs : List Nat} (nd : xs.Nodup) (hs : ∀ x ∈ xs, x < n) (hl : xs.length = n) : xs.Perm (List.range n) := by
  refine (List.perm_ext_iff_of_nodup nd List.nodup_range).mpr fun x => ⟨fun h => List.mem_range.mpr (hs x h), fun h => ?_⟩
  by_cases hx : x ∈ xs
  · exact hx
  · have := (List.nodup_cons.mpr ⟨hx, nd⟩).length_le_of_subset (l₂ := List.range n) fun y hy => by
      rcases List.mem_cons.mp hy with rfl | hy
      · exact h
      · exact List.mem_range.mpr (hs y hy)
    rw [List.length_cons, List.length_range] at this
    omega
theorem Fit.perm {w : Nat} {bs : List (Int × Int)} {f : Nat → Nat} (h : Fit w bs f) : (hpL f bs.length).Perm (List.range bs.length) := by
  refine nd_range ?_ (fun x hx => ?_) (hpL_len _ _)
  · unfold hpL
    exact List.pairwise_map.mpr (List.Pairwise.imp_of_mem (fun {p q} hp hq (hn : p ≠ q) e => hn (h.inj p q (List.mem_range.mp hp) (List.mem_range.mp hq) e)) List.nodup_range)
  · unfold hpL at hx
    obtain ⟨p, hp, rfl⟩ := List.mem_map.mp hx
    exact h.lt p (List.mem_range.mp hp)
theorem Fit.rise {w : Nat} {bs : List (Int × Int)} {f : Nat → Nat} (h : Fit w bs f) : Rise w (natB (hpL f bs.length)) (natB (hpL f bs.length)).length := fun i h1 hi => by
  rw [hpB_len] at hi
  have := par_ltB (c := i) (w := w) (by omega)
  rw [hpB_at hi, hpB_at (by omega)]
  have := h.heap i (by omega) hi
  omega
theorem Fit.fault {w : Nat} {bs : List (Int × Int)} {f : Nat → Nat} (h : Fit w bs f) (hw : 1 ≤ w ∧ w ≤ 4) (hn : bs.length ≤ 12) : faultL (natB (hpL f bs.length)) w = [] := by
  have h1 := (lheap_iff hw (by rw [hpB_len]; exact hn)).mpr h.rise
  rw [lheap_fault _ _ hw (by rw [hpB_len]; exact hn)] at h1
  exact of_decide_eq_true h1
def spIwn : Sp := fun vs H Q _ => ∃ (t r : Addr) (xs : List V) (bs : List (Int × Int)) (ks : List Int), vs = [.ref t, .ref r] ∧ H t = some (.tup (ks.map V.int)) ∧ H r = some (.lst xs) ∧ PrsAt H xs bs ∧ ks.length = bs.length ∧ bs.length ≤ 12 ∧ (∀ p, p < bs.length → bA bs p ≤ keyAt ks p ∧ keyAt ks p ≤ bB bs p) ∧
  ∀ H' : Hp, Same H H' → Q (.bl true) H'
theorem ok_iw (T : Tx K mg A) : FnOk P w K mg base CX0 1 A.f_is_within A.d_is_within ["row", "bounds"] spIwn := by
  refine T.F_is_within.ok sc_is_within (fun vs H Q E h => ?_) (fun cdv B outer s H vs Q E hr h => ?_)
  · obtain ⟨t, r, xs, bs, ks, rfl, _⟩ := h
    rfl
  · obtain ⟨t, r, xs, bs, ks, rfl, et, er, hps, hkl, hn, hin, q⟩ := h
    have nd := sc_is_within.nd
    have hxl := Paired.length hps
    refine ⟨_, (pss_one (ps_ret (pe_callB (cr_all rfl) (by rfl) T.g_all (by decide +kernel) (pa_cons (pe_lc (own := [("key", 2), ("pair", 3)]) (g := gTup K 2 (gCons (gName 2) (gCons (gName 3) (gNil)))) (tt := tYes) rfl nd (Zm.pi_zipM true false (by rfl) T.g_zip (pa_cons (pv 0) (pa_cons (pv 1) pa_nil))) (blkOk_by (own := [("key", 2), ("pair", 3)]) (N := ["row", "bounds", "key", "pair"]) (sc := defScope s_is_within) (by decide +kernel)) (fun _ _ _ _ _ => (pg_tup rfl (pgs_cons (pg_name (i := 2) nd rfl (Or.inl rfl)) (pgs_cons (pg_name (i := 3) nd rfl (Or.inl rfl)) pgs_nil)))) (fun _ _ _ _ _ => pts_nil) (fun _ _ _ _ _ => (pe_chain op_le op_le (pe_ix (r := rIxT K) ix_tup (pv 3) pe_int (fun _ _ => rfl)) (pv 2) (pe_ix (r := rIxT K) ix_tup (pv 3) pe_int (fun _ _ => rfl))))) pa_nil)))), ?_⟩
    have hmin : bs.length = min (ks.map V.int).length xs.length := by rw [List.length_map]; omega
    refine ⟨_, rfl, _, rfl, t, r, ks.map V.int, xs, rfl, SqT.of et, SqL.of er, fun D nD => ?_⟩
    refine lc_it (Zm.walk_zipM (t1 := true) (t2 := false) (n := bs.length) hmin) (fun j H' => AllT H D j H') (AllT.start nD) (fun j H' _ ac => ⟨SqT.of (ac.s _ _ et), SqL.of (ac.s _ _ er)⟩) ?_ ?_
    · rintro j y H2 H3 hj ac ⟨T', x', x2, rfl, hT, rfl, e1, e2⟩
      obtain ⟨hi1, rfl⟩ := ints_at e1
      obtain ⟨p, ep, u, rfl, eu⟩ := prs_get hps e2
      have hb := hin j hj
      have ek : keyAt ks j = ks[j] := by unfold keyAt; rw [List.getD_eq_getElem?_getD, List.getElem?_eq_getElem hi1]; rfl
      have ea : bA bs j = p.1 ∧ bB bs j = p.2 := by
        unfold bA bB
        rw [List.getD_eq_getElem?_getD, ep]
        exact ⟨rfl, rfl⟩
      rw [ek, ea.1, ea.2] at hb
      generalize ks[j] = k at *
      have st := Same.up (o := .tup [V.int k, V.ref u]) hT
      have ac3 := ac.same st
      have eu3 := st _ _ (ac.s _ _ eu)
      refine ⟨_, _, rfl, SqT.of upd_same, rfl, _, _, rfl, _, _, rfl, rfl, rfl, iteT (B := AllT H D (j + 1) (upd H2 T' (.tup [V.int k, V.ref u]))) ?_⟩
      generalize upd H2 T' (.tup [V.int k, V.ref u]) = G3 at ac3 eu3
      refine ⟨_, rfl, u, _, _, _, rfl, rfl, SqT.of eu3, rfl, _, rfl, _, _, rfl, rfl, _, rfl, ?_⟩
      refine ite_b (c := true) (decide_eq_true hb.1) (iteT ⟨_, rfl, u, _, _, _, rfl, rfl, SqT.of eu3, rfl, _, _, rfl, rfl, ?_⟩)
      obtain ⟨acc, a1, a2, a3⟩ := ac3.push (by rw [sizeLine_eq]; omega)
      refine ⟨acc, a1, a2, ?_⟩
      show AllT H D _ (upd G3 D (.lst (acc ++ [V.bl (decide (k ≤ p.2))])))
      rw [decide_eq_true hb.2]
      exact a3
    · intro H2 ac
      obtain ⟨cs, b1, _, b3⟩ := ac
      refine ⟨D, cs, rfl, SqL.of b3.a, ?_⟩
      rw [b1]
      exact q H2 b3.s
theorem b_iw (T : Tx K mg A) : L2.Binds K A.d_is_within ["row", "bounds"] [] := T.F_is_within.binds fun _ _ _ _ _ _ us hl => match us, hl with | [_, _], _ => rfl
def spFsh (A : Ad) : Sp := fun vs H Q _ => ∃ (p r w : Nat) (xs : List V) (bs : List (Int × Int)) (f : Nat → Nat), vs = [.ref p, .ref r, .int w] ∧ (1 ≤ w ∧ w ≤ 4) ∧ H r = some (.lst xs) ∧ PrsAt H xs bs ∧ bs.length ≤ 12 ∧ BOk bs ∧ AtF A.CF H p (natB (hpL f bs.length)) ∧ Fit w bs f ∧
  ∀ (H' : Hp), Same H H' → Q (.bl true) H'
theorem ok_fsh (T : Tx K mg A) : FnOk P w K mg base CX0 10 A.f_f_shows A.d_f_shows ["self", "bounds", "arms"] (spFsh A) := by
  refine T.F_f_shows.ok sc_f_shows (fun vs H Q E h => ?_) (fun cdv B outer s H vs Q E hr h => ?_)
  · obtain ⟨p, r, w, xs, bs, f, rfl, _⟩ := h
    rfl
  · obtain ⟨p, r, w1, xs, bs, f, rfl, hw, er, hps, hn, hok, at1, ft, q⟩ := h
    have nd := sc_f_shows.nd
    have hxl := Paired.length hps
    obtain ⟨dx, t0, a0, e0⟩ := id at1
    refine ⟨_, (pss_cons (ps_expr (pe_call (ok_cb T) (hr.mono (by decide)) (by rfl) T.m_check_bounds T.F_check_bounds.kp (b_cb T) .nil pass0 (pa_cons (pv 1) (pa_cons (pv 2) pa_nil))))
      (pss_one (ps_ret (pe_and (pe_call (ok_ifh T) (hr.mono (by decide)) (by rfl) T.m_is_full_heap T.F_is_full_heap.kp (b_ifh T) .nil pass0 (pa_cons (pe_fld (pv 0) rfl) (pa_cons (pe_callB (r := rLn K) call_len_seq (by rfl) T.g_len PySem.boot_len (pa_cons (pv 1) pa_nil)) (pa_cons (pv 2) pa_nil)))) (pe_one (pe_call (ok_iw T) (hr.mono (by decide)) (by rfl) T.m_is_within T.F_is_within.kp (b_iw T) .nil pass0 (pa_cons (pe_fld (pv 0) rfl) (pa_cons (pv 1) pa_nil)))))))), ?_⟩
    refine ⟨_, rfl, _, rfl, r, w1, xs, bs, rfl, hw, er, hps, hn, hok, fun H1 s1 => ?_⟩
    refine ⟨_, rfl, p, A.CF, dx, _, _, rfl, s1 _ _ a0, T.cTF, T.fRow, fdF_row _, _, rfl, r, _, rfl, .inl (SqL.of (s1 _ _ er)), _, rfl, t0, xs.length, w1, hpL f bs.length, rfl, s1 _ _ e0, by omega, hw, by rw [hxl]; exact ft.perm, ft.fault hw hn, fun H2 s2 => ?_⟩
    refine ⟨true, rfl, iteT ?_⟩
    have s12 := s1.trans s2
    refine ⟨_, rfl, p, A.CF, dx, _, _, rfl, s12 _ _ a0, T.cTF, T.fRow, fdF_row _, _, rfl, t0, r, xs, bs, natB (hpL f bs.length), rfl, s12 _ _ e0, s12 _ _ er, hps.same s12, hpB_len _ _, hn, fun i hi => ?_, fun H3 s3 => ?_⟩
    · rw [hpB_at hi]
      exact ft.inn i hi
    · exact q H3 (s12.trans s3)
theorem kb_fsh (T : Tx K mg A) : ∃ mv : List Value, KBn K A.d_f_shows ["self", "bounds", "arms"] 2 ["arms"] (fun us ws => us ++ (mv ++ ws)) (fun vs zs => vs ++ zs) := by
  obtain ⟨mv, h⟩ := T.F_f_shows.kbinds0 (ps := ["self", "bounds", "arms"]) 2 ["arms"] [] (fun us mv ws => us ++ (mv ++ ws)) (by simp) (by simp) (fun r1 r2 r3 => r1.append (r2.append r3))
    (fun D doc pm an cdv ct us mv ws h1 h2 h3 => by
      match us, mv, ws, h1, h2, h3 with
      | [a, b], [], [c], _, _, _ => rfl)
  exact ⟨mv, h⟩
theorem ins_congr {n : Nat} {l g l' g' : Nat → Int} {a b : Int} (h1 : ∀ p, p < n → l p = l' p) (h2 : ∀ p, p < n → g p = g' p) : insL n l g a b = insL n l' g' a b := by
  unfold insL
  refine List.filter_congr fun p hp => ?_
  have hp := List.mem_range.mp hp
  rw [h1 p hp, h2 p hp]
theorem Told.ins {w : Nat} {bs : List (Int × Int)} {l g l' g' : Nat → Int} (h : Told w bs l g) (k : Told w bs l' g') (a b : Int) : insL bs.length l g a b = insL bs.length l' g' a b :=
  ins_congr (fun p hp => Told.uniqL h k p p (Nat.le_refl _) hp) (fun p hp => Told.uniqG h k (bs.length - p) p (Nat.le_refl _) hp)
theorem zI_len (X : List Nat) : (zI X).length = X.length := by
  unfold zI
  rw [List.length_map]
def spCsh (A : Ad) : Sp := fun vs H Q _ => ∃ (p r w : Nat) (xs : List V) (bs : List (Int × Int)) (l g : Nat → Int) (a b : Int), vs = [.ref p, .ref r, .int w] ∧ (1 ≤ w ∧ w ≤ 4) ∧ H r = some (.lst xs) ∧ PrsAt H xs bs ∧ bs.length ≤ 12 ∧ BOk bs ∧ AtC A.CC H p a b (zI (insL bs.length l g a b)) ∧ Told w bs l g ∧ Crw bs.length l g a b ∧
  ∀ (H' : Hp), Same H H' → Q (.bl true) H'
theorem ok_csh (T : Tx K mg A) : FnOk P w K mg base CX0 10 A.f_c_shows A.d_c_shows ["self", "bounds", "arms"] (spCsh A) := by
  obtain ⟨mtb, ktb⟩ := kb_tb T
  refine T.F_c_shows.ok sc_c_shows (fun vs H Q E h => ?_) (fun cdv B outer s H vs Q E hr h => ?_)
  · obtain ⟨p, r, w, xs, bs, l, g, a, b, rfl, _⟩ := h
    rfl
  · obtain ⟨p, r, w1, xs, bs, l, g, a, b, rfl, hw, er, hps, hn, hok, at1, htd, hcr, q⟩ := h
    have nd := sc_c_shows.nd
    have hxl := Paired.length hps
    obtain ⟨dx, t0, a0, e0⟩ := id at1
    rw [zI_vi] at e0
    refine ⟨_, PSs.nox (C8.pss_cut (ps_set (i := 3) nd rfl (Or.inr rfl) (pe_call (ok_pin T) (hr.mono (by decide)) (by rfl) T.m_places_inside T.F_places_inside.kp (b_pin T) .nil pass0 (pa_cons (pe_callN (ok_tb T) (hr.mono (by decide)) (by rfl) T.m_told_bounds T.F_told_bounds.kp ktb pass0 (pa_cons (pv 1) pa_nil) (pk_cons (pv 2) pk_nil)) (pa_cons (pe_fld (pv 0) rfl) (pa_cons (pe_fld (pv 0) rfl) pa_nil)))))
      (C8.pss_cut (ps_if (pt_not (pt_val (pe_callB (cr_all rfl) (by rfl) T.g_all (by decide +kernel) (pa_cons (pe_lc (own := [("place", 4)]) (g := gName 4) (tt := tYes) rfl nd (pi_tup (pe_fld (pv 0) rfl)) (blkOk_by (own := [("place", 4)]) (N := ["self", "bounds", "arms", "inside", "place"]) (sc := defScope s_c_shows) (by decide +kernel)) (fun _ _ _ _ _ => pg_name (i := 4) nd rfl (Or.inl rfl)) (fun _ _ _ _ _ => pts_nil) (fun _ _ _ _ _ => (pe_and (pe_call (ok_ii T) (hr.mono (by decide)) (by rfl) T.m_is_integer_from T.F_is_integer_from.kp (b_ii T) .nil pass0 (pa_cons (pv 4) (pa_cons pe_int (pa_cons (pe_op op_sub (pe_callB (r := rLn K) call_len_seq (by rfl) T.g_len PySem.boot_len (pa_cons (pv 1) pa_nil)) pe_int) pa_nil)))) (pe_one (pe_cmpR (r := L2.rIn K false) op_in_seq (pv 4) (pv 3) (by rfl)))))) pa_nil)))) (pss_one (ps_ret pe_bl)) pss_nil)
      (pss_one (ps_ret (pe_and (pe_cmpR op_eq (pe_callB cr_lenSet (by rfl) T.g_len PySem.boot_len (pa_cons (pe_callTy (cr_setTI rfl) (by rfl) T.g_set (by decide +kernel) (pa_cons (pe_fld (pv 0) rfl) pa_nil)) pa_nil)) (pe_callB (r := rLn K) call_len_seq (by rfl) T.g_len PySem.boot_len (pa_cons (pe_fld (pv 0) rfl) pa_nil)) (nomark _)) (pe_one (pe_call (ok_icr T) (hr.mono (by decide)) (by rfl) T.m_is_crowd T.F_is_crowd.kp (b_icr T) .nil pass0 (pa_cons (pe_fld (pv 0) rfl) (pa_cons (pe_fld (pv 0) rfl) (pa_cons (pe_fld (pv 0) rfl) pa_nil)))))))))), ?_⟩
    refine ⟨fun σ' H' => ∃ q3 : Addr, σ' = [some (.ref p), some (.ref r), some (.int w1), some (.ref q3), none] ∧ Same H H' ∧ H' q3 = some (.lst (vi (insL bs.length l g a b))), ?_, ?_⟩
    · refine ⟨_, rfl, _, rfl, rfl, rfl, r, w1, xs, bs, rfl, hw, er, hps, hn, hok, fun H1 z ys L G s1 nz ez pz hL hG ht => ?_⟩
      refine ⟨_, rfl, p, A.CC, dx, _, _, rfl, s1 _ _ a0, T.cTC, T.cFirst, fdC_first _ _ _, _, rfl, p, A.CC, dx, _, _, rfl, s1 _ _ a0, T.cTC, T.cLast, fdC_last _ _ _, z, a, b, ys, L, G, rfl, ez, pz, by omega, by omega, fun H2 q3 s2 nq eq => ⟨q3, rfl, s1.trans s2, ?_⟩⟩
      rw [eq, hL, htd.ins ht]
    rintro σ' H1 ⟨q3, rfl, s1, e3⟩
    have er1 := s1 _ _ er
    have e01 := s1 _ _ e0
    have a01 := s1 _ _ a0
    have hil : (insL bs.length l g a b).length ≤ bs.length := by
      have := List.length_filter_le (fun p => decide (l p ≥ a) && decide (g p ≤ b)) (List.range bs.length)
      rw [List.length_range] at this
      exact this
    have hind : (insL bs.length l g a b).Nodup := List.Pairwise.filter _ List.nodup_range
    have him : ∀ x ∈ insL bs.length l g a b, x < bs.length := fun x hx => (mem_ins.mp hx).1
    have hcr2 : ((insL bs.length l g a b).length : Int) > max 0 (b - a + 1) := hcr
    generalize insL bs.length l g a b = W at *
    refine ⟨fun σ' H' => σ' = [some (.ref p), some (.ref r), some (.int w1), some (.ref q3), none] ∧ Same H1 H', ?_, ?_⟩
    · refine ⟨_, rfl, p, A.CC, dx, _, _, rfl, a01, T.cTC, T.cPlaces, fdC_places _ _ _, t0, rfl, ⟨_, SqT.of e01⟩, fun D nD => ?_⟩
      refine lc_it (walk_tup (xs := vi W)) (fun j H' => AllT H1 D j H') (AllT.start nD) (fun j H' _ ac => SqT.of (ac.s _ _ e01)) ?_ ?_
      · rintro j y Ho H2 hj ac ⟨rfl, hy⟩
        obtain ⟨hj2, rfl⟩ := viAt hy
        have hx := him _ (List.getElem_mem hj2)
        have hxm := List.getElem_mem hj2
        generalize W[j] = x at *
        have s2 := ac.s
        refine ⟨rfl, iteT (B := AllT H1 D (j + 1) H2) ?_⟩
        refine ⟨_, rfl, _, rfl, r, _, rfl, .inl (SqL.of (s2 _ _ er1)), _, _, rfl, rfl, _, _, _, rfl, .inl ⟨_, rfl, ?_⟩⟩
        rw [decide_eq_true (show (0 : Int) ≤ (x : Int) ∧ (x : Int) ≤ (xs.length : Int) - 1 by omega)]
        refine ⟨true, rfl, iteT ?_⟩
        refine ⟨_, rfl, _, rfl, q3, _, rfl, .inl (SqL.of (s2 _ _ e3)), rfl, vi_flat _, ?_⟩
        obtain ⟨acc, a1, a2, a3⟩ := ac.push (by rw [sizeLine_eq]; omega)
        refine ⟨acc, a1, a2, ?_⟩
        rw [if_neg Bool.false_ne_true, mem_vi, decide_eq_true hxm]
        exact a3
      · intro H2 ac
        obtain ⟨cs, b1, _, b3⟩ := ac
        refine ⟨D, cs, rfl, SqL.of b3.a, true, ?_, ?_⟩
        · rw [b1]
        · exact iteF ⟨rfl, b3.s⟩
    rintro σ' H2 ⟨rfl, s2⟩
    have e02 := s2 _ _ e01
    have a02 := s2 _ _ a01
    refine ⟨_, rfl, p, A.CC, dx, _, _, rfl, a02, T.cTC, T.cPlaces, fdC_places _ _ _, t0, zI W, rfl, SqT.of (by rw [zI_vi]; exact e02), by rw [zI_len]; omega, fun pp m hm np => ?_⟩
    have s3 := Same.up (o := SetO w pp (fun j => decide (j ∈ zI W)) m) np
    refine ⟨pp, _, m, rfl, upd_same, fun us hd hm2 hl2 => ?_⟩
    have hsc := set_count hd hm2
    rw [hl2] at hsc
    have hmn : m = W.length := by
      have := hsc.mpr ?_
      · rw [this, zI_len]
      · unfold zI
        exact List.pairwise_map.mpr (hind.imp fun {x y} (h : x ≠ y) e => h (Int.ofNat.inj e))
    have s13 := s1.trans (s2.trans s3)
    have a03 := s3 _ _ a02
    have e03 := s3 _ _ e02
    refine ⟨_, rfl, p, A.CC, dx, _, _, rfl, a03, T.cTC, T.cPlaces, fdC_places _ _ _, t0, vi W, rfl, .inr (SqT.of e03), rfl, true, congrArg V.bl (decide_eq_true (by rw [vi_len, hmn])), iteT ?_⟩
    refine ⟨_, rfl, p, A.CC, dx, _, _, rfl, a03, T.cTC, T.cPlaces, fdC_places _ _ _, _, rfl, p, A.CC, dx, _, _, rfl, a03, T.cTC, T.cFirst, fdC_first _ _ _, _, rfl, p, A.CC, dx, _, _, rfl, a03, T.cTC, T.cLast, fdC_last _ _ _, t0, a, b, vi W, rfl, .inr e03, ?_⟩
    rw [vi_len, decide_eq_true hcr2]
    exact q _ s13
theorem kb_csh (T : Tx K mg A) : ∃ mv : List Value, KBn K A.d_c_shows ["self", "bounds", "arms"] 2 ["arms"] (fun us ws => us ++ (mv ++ ws)) (fun vs zs => vs ++ zs) := by
  obtain ⟨mv, h⟩ := T.F_c_shows.kbinds0 (ps := ["self", "bounds", "arms"]) 2 ["arms"] [] (fun us mv ws => us ++ (mv ++ ws)) (by simp) (by simp) (fun r1 r2 r3 => r1.append (r2.append r3))
    (fun D doc pm an cdv ct us mv ws h1 h2 h3 => by
      match us, mv, ws, h1, h2, h3 with
      | [a, b], [], [c], _, _, _ => rfl)
  exact ⟨mv, h⟩

end
end Tw

set_option Elab.async false
set_option linter.all false
set_option maxRecDepth 100000
set_option maxHeartbeats 2000000
namespace Tw
open PySem PySem.Spec PyProof.Rows L2
section
variable {P : Program} {w : World} {K : PySem.W.Frag} {mg : Str → Option Value} {base : Heap} {A : Ad}
open LamX (ExtN Tabs TabS)
theorem m2 : ¬ (("row" : Str) = "looks") := by decide +kernel
theorem new_up {C x dx : Addr} {H : Hp} (nx : H x = none) (ndx : H dx = none) (nex : dx ≠ x) : Same H (upd (upd H dx (.own x)) x (.ins C dx [])) :=
  (Same.up ndx).trans (Same.up (by rw [upd_ne nex.symm]; exact nx))
theorem q5 : ¬ (("changes" : Str) = "looks") := by decide +kernel
theorem RowIn.ext {H H' : Hp} {a : Addr} {ns : List Int} (h : RowIn H a ns) (e : ExtN H H') : RowIn H' a ns := ⟨h.1.ext e, h.2⟩
end
end Tw

set_option Elab.async false
set_option linter.all false
set_option maxRecDepth 100000
set_option maxHeartbeats 2000000
namespace Tw
open PySem PySem.Spec PyProof.Rows L2
section
variable {P : Program} {w : World} {K : PySem.W.Frag} {mg : Str → Option Value} {base : Heap} {A : Ad}
open LamX (ExtN Tabs TabS)
/-! fit, can fit: cr_setLI cr_sortedSet PrsAt PrsAt.same prs_get Acc Acc.start Acc.push Acc.same sizeLine_eq walk_list vi vi_len keyAt ints_at TT extN_of new_up new_same AtF AtC AtF.same AtC.same zI zI_vi nv natB kb_tb -/
theorem rowV_full {n : Nat} {qs : List Nat} (h : ∀ p, p < n → p ∈ qs) : rowV n qs = nv (hpL (fun p => qs.idxOf p) n) := by
  unfold rowV nv natB hpL
  rw [List.map_map, List.map_map]
  refine List.map_congr_left fun p hp => ?_
  rw [if_pos (h p (List.mem_range.mp hp))]
  rfl
theorem edf_all {n : Nat} {l g : Nat → Int} {qs : List Nat} (e : Edf n l g qs) (hl : qs.length = n) : ∀ p, p < n → p ∈ qs := fun p hp => by
  by_cases hq : p ∈ qs
  · exact hq
  · have := (List.nodup_cons.mpr ⟨hq, e.1⟩).length_le_of_subset (l₂ := List.range n) fun x hx => by
      rcases List.mem_cons.mp hx with rfl | hx
      · exact List.mem_range.mpr hp
      · exact List.mem_range.mpr (e.2.1 x hx)
    rw [List.length_cons, List.length_range] at this
    omega
theorem keyAt_mem {ks : List Int} {p : Nat} (h : p < ks.length) : keyAt ks p ∈ ks := by
  unfold keyAt
  rw [List.getD_eq_getElem?_getD, List.getElem?_eq_getElem h]
  exact List.getElem_mem h
def FitRes (A : Ad) (w : Nat) (bs : List (Int × Int)) (H : Hp) (q : Addr) : Prop :=
  (∃ f, AtF A.CF H q (natB (hpL f bs.length)) ∧ Fit w bs f) ∨ (∃ (l g : Nat → Int) (a b : Int), AtC A.CC H q a b (zI (insL bs.length l g a b)) ∧ Told w bs l g ∧ Crw bs.length l g a b)
def spFit (A : Ad) : Sp := fun vs H Q _ => ∃ (r w : Nat) (xs : List V) (bs : List (Int × Int)), vs = [.ref r, .int w] ∧ (1 ≤ w ∧ w ≤ 4) ∧ H r = some (.lst xs) ∧ PrsAt H xs bs ∧ bs.length ≤ 12 ∧ BOk bs ∧ Tabs (TT A) H ∧
  ∀ (H' : Hp) (q : Addr), ExtN H H' → Tabs (TT A) H' → FitRes A w bs H' q → Q (.ref q) H'
theorem ok_fit (T : Tx K mg A) (TB : LamX.TabB base mg A.c_most_urgent_first A.P_most_urgent_first) : FnOk P w K mg base CX0 10 A.f_fit A.d_fit ["bounds", "arms"] (spFit A) := by
  obtain ⟨mtb, ktb⟩ := kb_tb T
  refine T.F_fit.ok sc_fit (fun vs H Q E h => ?_) (fun cdv B outer s H vs Q E hr h => ?_)
  · obtain ⟨r, w, xs, bs, rfl, _⟩ := h
    rfl
  · obtain ⟨r, w1, xs, bs, rfl, hw, er, hps, hn, hok, hT, q⟩ := h
    have nd := sc_fit.nd
    refine ⟨_, PSs.nox (C8.pss_cut (ps_set (i := 2) nd rfl (Or.inl rfl) (pe_callN (ok_tb T) (hr.mono (by decide)) (by rfl) T.m_told_bounds T.F_told_bounds.kp ktb pass0 (pa_cons (pv 0) pa_nil) (pk_cons (pv 1) pk_nil)))
      (C8.pss_cut (ps_for PassesOwn.never rfl (pi_list (pe_callB (cr_sortedSet rfl) (by rfl) T.g_sorted (by decide +kernel) (pa_cons (pe_callTy (cr_setLI rfl) (by rfl) T.g_set (by decide +kernel) (pa_cons (pe_lc (own := [("least", 6), ("_", 7)]) (g := gTup K 2 (gCons (gName 6) (gCons (gName 7) (gNil)))) (tt := tYes) rfl nd (pi_list (pv 2)) (blkOk_by (own := [("least", 6), ("_", 7)]) (N := ["bounds", "arms", "told", "first", "last", "places", "least", "_", "greatest"]) (sc := defScope s_fit) (by decide +kernel)) (fun _ _ _ _ _ => (pg_tup rfl (pgs_cons (pg_name (i := 6) nd rfl (Or.inl rfl)) (pgs_cons (pg_name (i := 7) nd rfl (Or.inl rfl)) pgs_nil)))) (fun _ _ _ _ _ => pts_nil) (fun _ _ _ _ _ => (pv 6))) pa_nil)) pa_nil))) (pg_name (i := 3) nd rfl (Or.inl rfl)) (pss_one (ps_for PassesOwn.never rfl (pi_list (pe_callB (cr_sortedSet rfl) (by rfl) T.g_sorted (by decide +kernel) (pa_cons (pe_callTy (cr_setLI rfl) (by rfl) T.g_set (by decide +kernel) (pa_cons (pe_lc (own := [("_", 7), ("greatest", 8)]) (g := gTup K 2 (gCons (gName 7) (gCons (gName 8) (gNil)))) (tt := tYes) rfl nd (pi_list (pv 2)) (blkOk_by (own := [("_", 7), ("greatest", 8)]) (N := ["bounds", "arms", "told", "first", "last", "places", "least", "_", "greatest"]) (sc := defScope s_fit) (by decide +kernel)) (fun _ _ _ _ _ => (pg_tup rfl (pgs_cons (pg_name (i := 7) nd rfl (Or.inl rfl)) (pgs_cons (pg_name (i := 8) nd rfl (Or.inl rfl)) pgs_nil)))) (fun _ _ _ _ _ => pts_nil) (fun _ _ _ _ _ => (pv 8))) pa_nil)) pa_nil))) (pg_name (i := 4) nd rfl (Or.inl rfl)) (C8.pss_cut (ps_set (i := 5) nd rfl (Or.inl rfl) (pe_call (ok_pin T) (hr.mono (by decide)) (by rfl) T.m_places_inside T.F_places_inside.kp (b_pin T) .nil pass0 (pa_cons (pv 2) (pa_cons (pv 3) (pa_cons (pv 4) pa_nil)))))
      (pss_one (ps_if (pt_val (pe_call (ok_icr T) (hr.mono (by decide)) (by rfl) T.m_is_crowd T.F_is_crowd.kp (b_icr T) .nil pass0 (pa_cons (pv 5) (pa_cons (pv 3) (pa_cons (pv 4) pa_nil))))) (pss_one (ps_ret (pe_make T.mkCC (ok_iC T) (hr.mono (by decide)) (by rfl) T.mCC (b_iC T) .nil pass0 (pa_cons (pv 3) (pa_cons (pv 4) (pa_cons (pv 5) pa_nil)))))) pss_nil))))))
      (pss_one (ps_ret (pe_make T.mkCF (ok_iF T) (hr.mono (by decide)) (by rfl) T.mCF (b_iF T) .nil pass0 (pa_cons (pe_call (ok_muf T TB) (hr.mono (by decide)) (by rfl) T.m_most_urgent_first T.F_most_urgent_first.kp (b_muf T) .nil pass0 (pa_cons (pv 2) pa_nil)) pa_nil)))))), ?_⟩
    refine ⟨fun σ' H' => ∃ (z : Addr) (ys : List V) (L G : List Int), σ' = [some (.ref r), some (.int w1), some (.ref z), none, none, none, none, none, none] ∧ Same H H' ∧ H' z = some (.lst ys) ∧ PrsAt H' ys (L.zip G) ∧ L.length = bs.length ∧ G.length = bs.length ∧ Told w1 bs (keyAt L) (keyAt G), ?_, ?_⟩
    · exact ⟨_, rfl, _, rfl, rfl, rfl, r, w1, xs, bs, rfl, hw, er, hps, hn, hok, fun H1 z ys L G s1 nz ez pz hL hG ht => ⟨z, ys, L, G, rfl, s1, ez, pz, hL, hG, ht⟩⟩
    rintro σ' H1 ⟨z, ys, L, G, rfl, s1, ez, pz, hL, hG, ht⟩
    have hyl := Paired.length pz
    rw [List.length_zip, hL, hG, Nat.min_self] at hyl
    refine ⟨fun σ' H' => ∃ (x3 x4 x5 : Option V), σ' = [some (.ref r), some (.int w1), some (.ref z), x3, x4, x5, none, none, none] ∧ Same H1 H' ∧ ∀ a ∈ L, ∀ b ∈ G, ¬ Crw bs.length (keyAt L) (keyAt G) a b, ?_, ?_⟩
    · refine ⟨_, rfl, z, rfl, ⟨_, SqL.of ez⟩, fun D nD => ?_⟩
      refine lc_it (walk_list (xs := ys)) (fun j H' => Acc H1 D ((L.take j).map V.int) H') (Acc.start nD) (fun j H' _ ac => SqL.of (ac.s _ _ ez)) ?_ ?_
      · rintro j y H5 H6 hj ac ⟨rfl, hy⟩
        obtain ⟨p, ep, u, rfl, eu⟩ := prs_get pz hy
        obtain ⟨hj1, hj2, rfl⟩ := zip_at ep
        refine ⟨_, _, rfl, SqT.of (ac.s _ _ eu), rfl, _, _, rfl, _, _, rfl, rfl, rfl, iteT (B := Acc H1 D ((L.take (j + 1)).map V.int) H6) ?_⟩
        have ek : keyAt L j = L[j] := by unfold keyAt; rw [List.getD_eq_getElem?_getD, List.getElem?_eq_getElem hj1]; rfl
        rw [List.take_succ_eq_append_getElem hj1, List.map_append, ← ek]
        refine ⟨_, rfl, _, ac.a, by rw [List.length_map, List.length_take, sizeLine_eq]; omega, ac.push⟩
      · intro H2 ac
        rw [hyl, ← hL, List.take_length] at ac
        refine ⟨D, L, rfl, SqL.of ac.a, by omega, fun ps m hm nps => ?_⟩
        refine ⟨ps, _, m, rfl, upd_same, by omega, fun fs p3 _ hmem hlen np2 => ?_⟩
        have hfs : ∀ z, z ∈ fs ↔ z ∈ L := fun z => by rw [hmem, decide_eq_true_eq]
        refine ⟨p3, rfl, ⟨_, SqL.of upd_same⟩, for_it (walk_list (xs := fs.map V.int)) (fun i σ' H' => ∃ (x3 x4 x5 : Option V), σ' = [some (.ref r), some (.int w1), some (.ref z), x3, x4, x5, none, none, none] ∧ (Same H2 H' ∧ H' p3 = some (.lst (fs.map V.int))) ∧ ∀ a ∈ fs.take i, ∀ b ∈ G, ¬ Crw bs.length (keyAt L) (keyAt G) a b)
          ⟨none, none, none, rfl, ⟨(Same.up nps).trans (Same.up np2), upd_same⟩, fun a ha => absurd ha (by rw [List.take_zero]; exact List.not_mem_nil)⟩ (fun i σ' H' _ ⟨_, _, _, _, s, _⟩ => SqL.of s.2) ?_ ?_⟩
        · rintro i y σ' Ho H4 hi ⟨x3, x4, x5, rfl, ⟨s4, e43⟩, hnc⟩ ⟨rfl, hy⟩
          obtain ⟨hi2, rfl⟩ := ints_at hy
          have htk := List.take_succ_eq_append_getElem hi2
          rw [htk]
          generalize fs[i] = a at *
          have s14 := ac.s.trans s4
          have ez4 := s14 _ _ ez
          have pz4 := pz.same s14
          refine ⟨_, rfl, z, rfl, ⟨_, SqL.of ez4⟩, fun D2 nD2 => ?_⟩
          refine lc_it (walk_list (xs := ys)) (fun j H' => Acc H4 D2 ((G.take j).map V.int) H') (Acc.start nD2) (fun j H' _ ac => SqL.of (ac.s _ _ ez4)) ?_ ?_
          · rintro j y H5 H6 hj ac ⟨rfl, hy⟩
            obtain ⟨p, ep, u, rfl, eu⟩ := prs_get pz4 hy
            obtain ⟨hj1, hj2, rfl⟩ := zip_at ep
            refine ⟨_, _, rfl, SqT.of (ac.s _ _ eu), rfl, _, _, rfl, _, _, rfl, rfl, rfl, iteT (B := Acc H4 D2 ((G.take (j + 1)).map V.int) H6) ?_⟩
            have ek : keyAt G j = G[j] := by unfold keyAt; rw [List.getD_eq_getElem?_getD, List.getElem?_eq_getElem hj2]; rfl
            rw [List.take_succ_eq_append_getElem hj2, List.map_append, ← ek]
            refine ⟨_, rfl, _, ac.a, by rw [List.length_map, List.length_take, sizeLine_eq]; omega, ac.push⟩
          · intro H5 ac5
            rw [hyl, ← hG, List.take_length] at ac5
            refine ⟨D2, G, rfl, SqL.of ac5.a, by omega, fun ps2 m2 hm2 nps2 => ?_⟩
            refine ⟨ps2, _, m2, rfl, upd_same, by omega, fun gs p6 _ hmem2 hlen2 np3 => ?_⟩
            have hgs : ∀ z, z ∈ gs ↔ z ∈ G := fun z => by rw [hmem2, decide_eq_true_eq]
            refine ⟨p6, rfl, ⟨_, SqL.of upd_same⟩, for_it (walk_list (xs := gs.map V.int)) (fun k σ' H' => ∃ (x4 x5 : Option V), σ' = [some (.ref r), some (.int w1), some (.ref z), some (.int a), x4, x5, none, none, none] ∧ (Same H5 H' ∧ H' p6 = some (.lst (gs.map V.int))) ∧ ∀ b ∈ gs.take k, ¬ Crw bs.length (keyAt L) (keyAt G) a b)
              ⟨x4, x5, rfl, ⟨(Same.up nps2).trans (Same.up np3), upd_same⟩, fun b hb => absurd hb (by rw [List.take_zero]; exact List.not_mem_nil)⟩ (fun k σ' H' _ ⟨_, _, _, s, _⟩ => SqL.of s.2) ?_ ?_⟩
            · rintro k y σ' Ho H7 hk ⟨x4, x5, rfl, ⟨s7, e76⟩, hnc2⟩ ⟨rfl, hy⟩
              obtain ⟨hk2, rfl⟩ := ints_at hy
              have htk2 := List.take_succ_eq_append_getElem hk2
              rw [htk2]
              generalize gs[k] = b at *
              have s17 := s14.trans (ac5.s.trans s7)
              refine ⟨fun σ' H' => ∃ q5 : Addr, σ' = [some (.ref r), some (.int w1), some (.ref z), some (.int a), some (.int b), some (.ref q5), none, none, none] ∧ Same H7 H' ∧ H' q5 = some (.lst (vi (insL bs.length (keyAt L) (keyAt G) a b))), ?_, ?_⟩
              · exact ⟨_, rfl, _, rfl, _, rfl, z, a, b, ys, L, G, rfl, s17 _ _ ez, pz.same s17, by omega, by omega, fun H8 q5 s8 nq eq => ⟨q5, rfl, s8, by rw [eq, hL]⟩⟩
              rintro σ' H8 ⟨q5, rfl, s8, e5⟩
              refine ⟨_, rfl, _, rfl, _, rfl, q5, a, b, _, rfl, .inl e5, ?_⟩
              rw [vi_len]
              refine ⟨_, rfl, ?_⟩
              by_cases hc : Crw bs.length (keyAt L) (keyAt G) a b
              · refine ite_b (c := true) (decide_eq_true hc) (iteT ⟨_, rfl, _, rfl, _, rfl, ?_⟩)
                intro p dx n1 n2 n3
                have sN := new_up (C := A.CC) n1 n2 n3
                refine ⟨p, dx, q5, a, b, zI (insL bs.length (keyAt L) (keyAt G) a b), rfl, upd_same, .inl (by rw [zI_vi]; exact sN _ _ e5), fun H9 fr at9 => ⟨rfl, ?_⟩⟩
                have sF := s1.trans (s17.trans (s8.trans (new_same n1 n2 fr)))
                exact q H9 p (extN_of sF) (hT.ext sF) (.inr ⟨_, _, a, b, at9, ht, hc⟩)
              · refine ite_b (c := false) (decide_eq_false hc) (iteF ⟨_, _, rfl, ⟨s7.trans s8, s8 _ _ e76⟩, fun c hcm => ?_⟩)
                rcases List.mem_append.mp hcm with h | h
                · exact hnc2 c h
                · rw [List.mem_singleton.mp h]
                  exact hc
            · rintro σ' H7 ⟨x4, x5, rfl, ⟨s7, e76⟩, hnc2⟩
              rw [List.length_map, List.take_length] at hnc2
              refine ⟨_, _, _, rfl, ⟨s4.trans (ac5.s.trans s7), s7 _ _ (ac5.s _ _ e43)⟩, fun c hcm b hb => ?_⟩
              rcases List.mem_append.mp hcm with h | h
              · exact hnc c h b hb
              · rw [List.mem_singleton.mp h]
                exact hnc2 b ((hgs b).mpr hb)
        · rintro σ' H4 ⟨x3, x4, x5, rfl, ⟨s4, _⟩, hnc⟩
          rw [List.length_map, List.take_length] at hnc
          exact ⟨_, _, _, rfl, ac.s.trans s4, fun a ha b hb => hnc a ((hfs a).mpr ha) b hb⟩
    rintro σ' H2 ⟨x3, x4, x5, rfl, s2, hnc⟩
    have nc : ∀ p q, p < bs.length → q < bs.length → ¬ Crw bs.length (keyAt L) (keyAt G) (keyAt L p) (keyAt G q) := fun p q hp hq => hnc _ (keyAt_mem (by omega)) _ (keyAt_mem (by omega))
    refine ⟨_, rfl, z, ys, L, G, rfl, s2 _ _ ez, pz.same s2, by omega, by omega, fun p hp => ?_, by rw [hL]; exact nc, hT.ext (s1.trans s2), fun H3 t qs e3 t3 et hed hql => ?_⟩
    · have h1 := ht.g0 p (by omega)
      have h2 := (hok p (by omega)).2.2
      omega
    · rw [hL] at et hed hql
      rw [rowV_full (edf_all hed hql)] at et
      intro p dx n1 n2 n3
      have sN := new_up (C := A.CF) n1 n2 n3
      refine ⟨p, dx, t, natB (hpL (fun p => qs.idxOf p) bs.length), rfl, upd_same, .inl (sN _ _ et), fun H9 fr at9 => ⟨rfl, ?_⟩⟩
      have sF := new_same n1 n2 fr
      exact q H9 p (((extN_of (s1.trans s2)).trans e3).trans (extN_of sF)) (t3.ext sF) (.inl ⟨_, at9, edf_fit hok ht hed hql nc⟩)
theorem kb_fit (T : Tx K mg A) : ∃ mv : List Value, KBn K A.d_fit ["bounds", "arms"] 1 ["arms"] (fun us ws => us ++ (mv ++ ws)) (fun vs zs => vs ++ zs) := by
  obtain ⟨mv, h⟩ := T.F_fit.kbinds0 (ps := ["bounds", "arms"]) 1 ["arms"] [] (fun us mv ws => us ++ (mv ++ ws)) (by simp) (by simp) (fun r1 r2 r3 => r1.append (r2.append r3))
    (fun D doc pm an cdv ct us mv ws h1 h2 h3 => by
      match us, mv, ws, h1, h2, h3 with
      | [a], [], [c], _, _, _ => rfl)
  exact ⟨mv, h⟩
def spCf (A : Ad) : Sp := fun vs H Q _ => ∃ (r w : Nat) (xs : List V) (bs : List (Int × Int)), vs = [.ref r, .int w] ∧ (1 ≤ w ∧ w ≤ 4) ∧ H r = some (.lst xs) ∧ PrsAt H xs bs ∧ bs.length ≤ 12 ∧ BOk bs ∧ Tabs (TT A) H ∧
  ∀ (H' : Hp) (b : Bool), ExtN H H' → Tabs (TT A) H' → (b = true ↔ Fits w bs) → Q (.bl b) H'
theorem ok_cf (T : Tx K mg A) (TB : LamX.TabB base mg A.c_most_urgent_first A.P_most_urgent_first) : FnOk P w K mg base CX0 11 A.f_can_fit A.d_can_fit ["bounds", "arms"] (spCf A) := by
  obtain ⟨mfi, kfit⟩ := kb_fit T
  refine T.F_can_fit.ok sc_can_fit (fun vs H Q E h => ?_) (fun cdv B outer s H vs Q E hr h => ?_)
  · obtain ⟨r, w, xs, bs, rfl, _⟩ := h
    rfl
  · obtain ⟨r, w1, xs, bs, rfl, hw, er, hps, hn, hok, hT, q⟩ := h
    have nd := sc_can_fit.nd
    refine ⟨_, PSs.nox (pss_one (ps_ret (pe_callB (r := rIsi K) call_isi (by rfl) T.g_isinstance (by decide +kernel) (pa_cons (pe_callN (ok_fit T TB) (hr.mono (by decide)) (by rfl) T.m_fit T.F_fit.kp kfit pass0 (pa_cons (pv 0) pa_nil) (pk_cons (pv 1) pk_nil)) (pa_cons (pe_glob (v := .ref A.CF) (by rfl) T.mCF (relR _)) pa_nil))))), ?_⟩
    refine ⟨_, rfl, _, rfl, rfl, rfl, r, w1, xs, bs, rfl, hw, er, hps, hn, hok, hT, fun H1 p e1 t1 hres => ?_⟩
    rcases hres with ⟨f, ⟨dx, t0, a0, _⟩, ft⟩ | ⟨l, g, a, b, ⟨dx, t0, a0, _⟩, ht, hc⟩
    · exact ⟨_, _, .ref A.CF, .ref A.CF, true, rfl, .own A.CF, .base (.ins a0 T.cTF T.kaF T.knF T.ktkF T.kmF), (by unfold PySem.W.kitOne; rw [if_pos (by simp)]), q H1 true e1 t1 ⟨fun _ => ⟨f, ft⟩, fun _ => rfl⟩⟩
    · exact ⟨_, _, .ref A.CC, .ref A.CF, false, rfl, .own A.CF, .base (.ins a0 T.cTC T.kaC T.knC T.ktkC T.kmC), T.kiF_CC, q H1 false e1 t1 ⟨fun z => (nomatch z), fun ⟨r, hr⟩ => absurd hc (hr.no_crowd ht a b)⟩⟩
theorem kb_cf (T : Tx K mg A) : ∃ mv : List Value, KBn K A.d_can_fit ["bounds", "arms"] 1 ["arms"] (fun us ws => us ++ (mv ++ ws)) (fun vs zs => vs ++ zs) := by
  obtain ⟨mv, h⟩ := T.F_can_fit.kbinds0 (ps := ["bounds", "arms"]) 1 ["arms"] [] (fun us mv ws => us ++ (mv ++ ws)) (by simp) (by simp) (fun r1 r2 r3 => r1.append (r2.append r3))
    (fun D doc pm an cdv ct us mv ws h1 h2 h3 => by
      match us, mv, ws, h1, h2, h3 with
      | [a], [], [c], _, _, _ => rfl)
  exact ⟨mv, h⟩

end
end Tw

set_option Elab.async false
set_option linter.all false
set_option maxRecDepth 100000
set_option maxHeartbeats 2000000
namespace Tw
open PySem PySem.Spec PyProof.Rows L2
section
variable {P : Program} {w : World} {K : PySem.W.Frag} {mg : Str → Option Value} {base : Heap} {A : Ad}
open LamX (ExtN Tabs TabS)
/-- a tuple of keys at an address -/
def RowAt (H : Hp) (v : V) (l : List Int) : Prop := ∃ t, v = .ref t ∧ H t = some (.tup (l.map V.int))
abbrev RowsAt (H : Hp) : List V → List (List Int) → Prop := Paired (RowAt H)
structure AccR (H1 : Hp) (D : Addr) (ls : List (List Int)) (H : Hp) : Prop where
  s : Same H1 H
  n : H1 D = Option.none
  a : ∃ xs, H D = some (.lst xs) ∧ RowsAt H xs ls
theorem RowsAt.push {H : Hp} {x : V} {l : List Int} (hp : RowAt H x l) : ∀ {xs : List V} {ls : List (List Int)}, RowsAt H xs ls → RowsAt H (xs ++ [x]) (ls ++ [l])
  | _, _, .nil => .cons hp .nil
  | _, _, .cons a b => .cons a (RowsAt.push hp b)
theorem RowsAt.put {H : Hp} {D : Addr} {xs zs ys : List V} {ls : List (List Int)} (hD : H D = some (.lst zs)) (h : RowsAt H xs ls) : RowsAt (upd H D (.lst ys)) xs ls :=
  L2.Paired.mapP h fun _ _ ⟨t, e, z⟩ => ⟨t, e, by rw [upd_ne (ne_of z hD (by intro q; cases q))]; exact z⟩
theorem AccR.push {H1 H : Hp} {D : Addr} {ls : List (List Int)} {x : V} {l : List Int} (h : AccR H1 D ls H) (hp : RowAt H x l) (hl : ls.length < sizeLine) :
    ∃ acc, H D = some (.lst acc) ∧ acc.length < sizeLine ∧ AccR H1 D (ls ++ [l]) (upd H D (.lst (acc ++ [x]))) := by
  obtain ⟨xs, e, z⟩ := h.a
  refine ⟨xs, e, by rw [z.length]; exact hl, fun b o k => ?_, h.n, xs ++ [x], upd_same, (RowsAt.push hp z).put e⟩
  rw [upd_ne (ne_of_none k h.n)]
  exact h.s b o k
theorem RowsAt.same {H H' : Hp} {xs : List V} {ls : List (List Int)} (h : RowsAt H xs ls) (s : Same H H') : RowsAt H' xs ls := L2.Paired.mapP h fun _ _ ⟨t, e, z⟩ => ⟨t, e, s _ _ z⟩
theorem AccR.same {H1 H H' : Hp} {D : Addr} {ls : List (List Int)} (h : AccR H1 D ls H) (s : Same H H') : AccR H1 D ls H' := ⟨h.s.trans s, h.n, let ⟨xs, e, z⟩ := h.a; ⟨xs, s _ _ e, z.same s⟩⟩
theorem AccR.start {H1 : Hp} {D : Addr} (n : H1 D = none) : AccR H1 D [] (upd H1 D (.lst [])) := ⟨Same.up n, n, [], upd_same, .nil⟩
theorem tupQ {K : PySem.W.Frag} {H : Hp} {t : Addr} {xs : List V} {Q : VK} (h : Sq H t xs) (q : ∀ (H' : Hp) (p : Addr), Same H H' → H' p = some (.tup xs) → Q (.ref p) H') : rTupK K [.ref t] H Q := by
  rcases h with h | h
  · exact ⟨t, xs, rfl, .inl ⟨SqL.of h, fun l nl => q _ l (Same.up nl) upd_same⟩⟩
  · exact ⟨t, xs, rfl, .inr ⟨SqT.of h, q _ t (Same.refl _) h⟩⟩
theorem But.put {d : Addr} {o : HO} {H : Hp} : But d H (upd H d o) := fun b u n e => by rw [upd_ne n]; exact e
theorem PrsAt.put {H : Hp} {D : Addr} {o : HO} {xs zs : List V} {ps : List (Int × Int)} (hD : H D = some (.lst zs)) : PrsAt H xs ps → PrsAt (upd H D o) xs ps := fun h =>
  L2.Paired.mapP h fun _ _ ⟨t, e, z⟩ => ⟨t, e, by rw [upd_ne (ne_of z hD (by intro q; cases q))]; exact z⟩
theorem RowsAt.ext {H H' : Hp} {xs : List V} {ls : List (List Int)} (h : RowsAt H xs ls) (e : ExtN H H') : RowsAt H' xs ls := L2.Paired.mapP h fun _ _ ⟨t, q, z⟩ => ⟨t, q, e _ _ z fun _ y => nomatch y⟩
end
end Tw

set_option Elab.async false
set_option linter.all false
set_option maxRecDepth 100000
set_option maxHeartbeats 2000000
namespace Tw
open PySem PySem.Spec PyProof.Rows L2
section
variable {P : Program} {w : World} {K : PySem.W.Frag} {mg : Str → Option Value} {base : Heap} {A : Ad}
open LamX (ExtN Tabs TabS)
/-! can have, ranks within: kb_cf spCf spCb ok_cb b_cb PrsAt PrsAt.same prs_get PrsAt.ext AccR AccR.start AccR.push AccR.same RowAt RowsAt walk_enum Acc Acc.start Acc.push sizeLine_eq TT extN_of walk_range tupQ tabs_upd ixN_nat -/
/-- the bounds with one place fixed -/
abbrev fixB (bs : List (Int × Int)) (p : Nat) (k : Int) : List (Int × Int) := bs.set p (k, k)
theorem fix_at {bs : List (Int × Int)} {p q : Nat} {k : Int} (h : p < bs.length) : bA (fixB bs p k) q = (if q = p then k else bA bs q) ∧ bB (fixB bs p k) q = (if q = p then k else bB bs q) := by
  unfold bA bB fixB
  rw [List.getD_eq_getElem?_getD, List.getD_eq_getElem?_getD, List.getElem?_set]
  by_cases e : p = q
  · subst e
    rw [if_pos rfl, if_pos h, if_pos rfl, if_pos rfl]
    exact ⟨rfl, rfl⟩
  · rw [if_neg e, if_neg (fun z => e z.symm), if_neg (fun z => e z.symm)]
    exact ⟨rfl, rfl⟩
theorem fix_ok {bs : List (Int × Int)} {p : Nat} {k : Int} (h : p < bs.length) (ok : BOk bs) (hk : 0 ≤ k ∧ k ≤ (bs.length : Int) - 1) : BOk (fixB bs p k) := fun q hq => by
  rw [List.length_set] at hq ⊢
  rw [(fix_at h).1, (fix_at h).2]
  by_cases e : q = p
  · rw [if_pos e, if_pos e]
    omega
  · rw [if_neg e, if_neg e]
    exact ok q hq
theorem prs_set {H : Hp} : ∀ {xs : List V} {ps : List (Int × Int)} {p : Nat} {x : V} {y : Int × Int}, PrsAt H xs ps → PrAt H x y → PrsAt H (xs.set p x) (ps.set p y)
  | [], [], _, _, _, _, _ => .nil
  | _ :: _, _ :: _, 0, _, _, .cons _ b, h => .cons h b
  | _ :: _, _ :: _, _ + 1, _, _, .cons a b, h => .cons a (prs_set b h)
def spCh (A : Ad) : Sp := fun vs H Q _ => ∃ (r w p : Nat) (k : Int) (xs : List V) (bs : List (Int × Int)), vs = [.ref r, .int p, .int k, .int w] ∧ (1 ≤ w ∧ w ≤ 4) ∧ H r = some (.lst xs) ∧ PrsAt H xs bs ∧ bs.length ≤ 12 ∧ BOk bs ∧ p < bs.length ∧ 0 ≤ k ∧ k ≤ (bs.length : Int) - 1 ∧ Tabs (TT A) H ∧
  ∀ (H' : Hp) (b : Bool), ExtN H H' → Tabs (TT A) H' → (b = true ↔ Fits w (fixB bs p k)) → Q (.bl b) H'
theorem ok_ch (T : Tx K mg A) (TB : LamX.TabB base mg A.c_most_urgent_first A.P_most_urgent_first) : FnOk P w K mg base CX0 12 A.f_can_have A.d_can_have ["bounds", "place", "rank", "arms"] (spCh A) := by
  obtain ⟨mcf, kcf⟩ := kb_cf T
  refine T.F_can_have.ok sc_can_have (fun vs H Q E h => ?_) (fun cdv B outer s H vs Q E hr h => ?_)
  · obtain ⟨r, w, p, k, xs, bs, rfl, _⟩ := h
    rfl
  · obtain ⟨r, w1, p, k, xs, bs, rfl, hw, er, hps, hn, hok, hp, hk0, hk1, hT, q⟩ := h
    have nd := sc_can_have.nd
    have hxl := Paired.length hps
    refine ⟨_, PSs.nox (C8.pss_cut (ps_set (i := 4) nd rfl (Or.inl rfl) (pe_callTy (r := rListK K) call_listK (by rfl) T.g_list (by decide +kernel) (pa_cons (pv 0) pa_nil)))
      (C8.pss_cut (ps_asg (pe_tup (pa_cons (pv 2) (pa_cons (pv 2) pa_nil))) (pg_sub (pv 4) (pv 1) set_list))
      (pss_one (ps_ret (pe_callN (ok_cf T TB) (hr.mono (by decide)) (by rfl) T.m_can_fit T.F_can_fit.kp kcf pass0 (pa_cons (pv 4) pa_nil) (pk_cons (pv 3) pk_nil)))))), ?_⟩
    refine ⟨fun σ' H' => ∃ z : Addr, σ' = [some (.ref r), some (.int p), some (.int k), some (.int w1), some (.ref z)] ∧ Same H H' ∧ H z = none ∧ H' z = some (.lst xs), ?_, ?_⟩
    · exact ⟨_, rfl, r, _, rfl, .inl (SqL.of er), fun z nz => ⟨z, rfl, Same.up nz, nz, upd_same⟩⟩
    rintro σ' H1 ⟨z, rfl, s1, nz, ez⟩
    refine ⟨fun σ' H' => ∃ ys : List V, σ' = [some (.ref r), some (.int p), some (.int k), some (.int w1), some (.ref z)] ∧ Same H H' ∧ H' z = some (.lst ys) ∧ PrsAt H' ys (fixB bs p k), ?_, ?_⟩
    · refine ⟨_, rfl, _, rfl, by show 2 ≤ sizeLine; decide, fun t nt => ?_⟩
      have st := Same.up (o := .tup [V.int k, V.int k]) nt
      have ezt := st _ _ ez
      have ett : upd H1 t (.tup [V.int k, V.int k]) t = some (.tup [V.int k, V.int k]) := upd_same
      have hps2 := hps.same (s1.trans st)
      generalize upd H1 t (.tup [V.int k, V.int k]) = H2 at st ezt ett hps2
      refine ⟨_, rfl, _, rfl, z, _, _, p, rfl, rfl, ezt, ixN_nat (by omega), _, rfl, fun b o e => ?_, upd_same, ?_⟩
      · rw [upd_ne (ne_of_none e nz)]
        exact st _ _ (s1 _ _ e)
      · exact (prs_set hps2 ⟨t, rfl, ett⟩).put ezt
    rintro σ' H2 ⟨ys, rfl, s2, ez2, hp2⟩
    refine ⟨_, rfl, _, rfl, rfl, rfl, z, w1, ys, fixB bs p k, rfl, hw, ez2, hp2, by rw [List.length_set]; exact hn, fix_ok hp hok ⟨hk0, hk1⟩, hT.ext s2, fun H3 b e3 t3 hb => ?_⟩
    exact q H3 b ((extN_of s2).trans e3) t3 hb
theorem b_ch (T : Tx K mg A) : L2.Binds K A.d_can_have ["bounds", "place", "rank", "arms"] [] := T.F_can_have.binds fun _ _ _ _ _ _ us hl => match us, hl with | [_, _, _, _], _ => rfl
def RankOk (w : Nat) (bs : List (Int × Int)) (p : Nat) (ks : List Int) : Prop := ∀ k, k ∈ ks ↔ (bA bs p ≤ k ∧ k ≤ bB bs p) ∧ Fits w (fixB bs p k)
structure AccE (A : Ad) (H1 : Hp) (D : Addr) (R : List (List Int)) (H : Hp) : Prop where
  s : ExtN H1 H
  t : Tabs (TT A) H
  n : H1 D = none
  a : ∃ xs, H D = some (.lst xs) ∧ RowsAt H xs R
theorem rows_ext {H H' : Hp} {xs : List V} {ls : List (List Int)} (h : RowsAt H xs ls) (e : ExtN H H') : RowsAt H' xs ls :=
  L2.Paired.mapP h fun _ _ ⟨t, q, z⟩ => ⟨t, q, e _ _ z fun _ z => nomatch z⟩
theorem rows_putD {H : Hp} {D : Addr} {o2 : HO} {zs : List V} (hD : H D = some (.lst zs)) {xs : List V} {ls : List (List Int)} (h : RowsAt H xs ls) : RowsAt (upd H D o2) xs ls :=
  L2.Paired.mapP h fun _ _ ⟨t, q, z⟩ => ⟨t, q, by rw [upd_ne (ne_of z hD (by intro y; cases y))]; exact z⟩
theorem rows_snoc {H : Hp} {x : V} {l : List Int} (h : RowAt H x l) : ∀ {xs : List V} {ls : List (List Int)}, RowsAt H xs ls → RowsAt H (xs ++ [x]) (ls ++ [l])
  | [], [], _ => .cons h .nil
  | _ :: _, _ :: _, .cons a b => .cons a (rows_snoc h b)
theorem ext_upd {H1 H : Hp} {D : Addr} {o : HO} (s : ExtN H1 H) (n : H1 D = none) : ExtN H1 (upd H D o) := fun b o e z => by
  rw [upd_ne (ne_of_none e n)]
  exact s b o e z
theorem AccE.ext {A : Ad} {H1 H H' : Hp} {D : Addr} {R : List (List Int)} (h : AccE A H1 D R H) (e : ExtN H H') (t : Tabs (TT A) H') : AccE A H1 D R H' :=
  ⟨h.s.trans e, t, h.n, let ⟨xs, a, b⟩ := h.a; ⟨xs, e _ _ a (fun _ z => nomatch z), rows_ext b e⟩⟩
theorem AccE.push {A : Ad} {H1 H : Hp} {D : Addr} {R : List (List Int)} {x : V} {l : List Int} (h : AccE A H1 D R H) (hx : RowAt H x l) (hl : R.length < sizeLine) : ∃ acc, H D = some (.lst acc) ∧ acc.length < sizeLine ∧ AccE A H1 D (R ++ [l]) (upd H D (.lst (acc ++ [x]))) := by
  obtain ⟨s, t, n, xs, e, z⟩ := h
  exact ⟨xs, e, by rw [Paired.length z]; exact hl, ext_upd s n, tabs_upd t e, n, xs ++ [x], upd_same, rows_putD e (rows_snoc hx z)⟩
def spRw2 (A : Ad) : Sp := fun vs H Q _ => ∃ (r w : Nat) (xs : List V) (bs : List (Int × Int)), vs = [.ref r, .int w] ∧ (1 ≤ w ∧ w ≤ 4) ∧ H r = some (.lst xs) ∧ PrsAt H xs bs ∧ bs.length ≤ 12 ∧ BOk bs ∧ Tabs (TT A) H ∧
  ∀ (H' : Hp) (q : Addr) (ys : List V) (R : List (List Int)), ExtN H H' → Tabs (TT A) H' → H q = none → H' q = some (.lst ys) → RowsAt H' ys R → R.length = bs.length → (∀ p, p < bs.length → RankOk w bs p (R.getD p [])) → Q (.ref q) H'
theorem ok_rw2 (T : Tx K mg A) (TB : LamX.TabB base mg A.c_most_urgent_first A.P_most_urgent_first) : FnOk P w K mg base CX0 13 A.f_ranks_within A.d_ranks_within ["bounds", "arms"] (spRw2 A) := by
  refine T.F_ranks_within.ok sc_ranks_within (fun vs H Q E h => ?_) (fun cdv B outer s H vs Q E hr h => ?_)
  · obtain ⟨r, w, xs, bs, rfl, _⟩ := h
    rfl
  · obtain ⟨r, w1, xs, bs, rfl, hw, er, hps, hn, hok, hT, q⟩ := h
    have nd := sc_ranks_within.nd
    have hxl := Paired.length hps
    refine ⟨_, PSs.nox (pss_cons (ps_expr (pe_call (ok_cb T) (hr.mono (by decide)) (by rfl) T.m_check_bounds T.F_check_bounds.kp (b_cb T) .nil pass0 (pa_cons (pv 0) (pa_cons (pv 1) pa_nil))))
      (pss_one (ps_ret (pe_lc (own := [("place", 2), ("pair", 3)]) (g := gTup K 2 (gCons (gName 2) (gCons (gName 3) (gNil)))) (tt := tYes) rfl nd (pi_enS (by rfl) T.g_enumerate (pa_cons (pv 0) pa_nil)) (blkOk_by (own := [("place", 2), ("pair", 3)]) (N := ["bounds", "arms", "place", "pair", "rank"]) (sc := defScope s_ranks_within) (by decide +kernel)) (fun _ _ _ _ _ => (pg_tup rfl (pgs_cons (pg_name (i := 2) nd rfl (Or.inr rfl)) (pgs_cons (pg_name (i := 3) nd rfl (Or.inl rfl)) pgs_nil)))) (fun _ _ _ _ _ => pts_nil) (fun _ _ _ _ _ => (pe_callTy (r := rTupK K) call_tupleK (by rfl) T.g_tuple (by decide +kernel) (pa_cons (pe_lc (own := [("rank", 4)]) (g := gName 4) rfl nd (pi_range2 rfl T.g_range (pa_cons (pe_ix (r := rIxT K) ix_tup (pv 3) pe_int (fun _ _ => rfl)) (pa_cons (pe_op op_add (pe_ix (r := rIxT K) ix_tup (pv 3) pe_int (fun _ _ => rfl)) pe_int) pa_nil))) (blkOk_in (own := [("rank", 4)]) (N := ["bounds", "arms", "place", "pair", "rank"]) (sc0 := defScope s_ranks_within) rfl rfl (by decide +kernel)) (fun _ _ _ _ _ => pg_name (i := 4) nd rfl (Or.inl rfl)) (fun _ _ _ _ _ => pts_one (pt_val (pe_call (ok_ch T TB) (hr.mono (by decide)) (by rfl) T.m_can_have T.F_can_have.kp (b_ch T) .nil pass0 (pa_cons (pv 0) (pa_cons (pv 2) (pa_cons (pv 4) (pa_cons (pv 1) pa_nil))))))) (fun _ _ _ _ _ => (pv 4))) pa_nil))))))), ?_⟩
    refine ⟨_, rfl, _, rfl, r, w1, xs, bs, rfl, hw, er, hps, hn, hok, fun H1 s1 => ?_⟩
    have er1 := s1 _ _ er
    have hp1 := hps.same s1
    refine ⟨_, rfl, r, _, rfl, .inl ⟨SqL.of er1, fun D nD => ?_⟩⟩
    refine lc_it (walk_enum (xs := xs)) (fun j H' => ∃ R : List (List Int), AccE A H1 D R H' ∧ R.length = j ∧ ∀ p, p < j → RankOk w1 bs p (R.getD p [])) ⟨[], ⟨extN_of (Same.up nD), (hT.ext s1).ext (Same.up nD), nD, [], upd_same, .nil⟩, rfl, fun p h => absurd h (Nat.not_lt_zero p)⟩ (fun j H' _ ⟨_, ac, _⟩ => SqL.of (ac.s _ _ er1 (fun _ z => nomatch z))) ?_ ?_
    · rintro j y H2o H2 hj ⟨R, ac, hRl, hR⟩ ⟨T', x, x2, rfl, hT', rfl, e1, e2⟩
      cases e1
      obtain ⟨p, ep, u, rfl, eu⟩ := prs_get hp1 e2
      have hb := bok_at hok ep
      have ea : bA bs j = p.1 ∧ bB bs j = p.2 := by
        unfold bA bB
        rw [List.getD_eq_getElem?_getD, ep]
        exact ⟨rfl, rfl⟩
      have hjl : j < bs.length := by omega
      obtain ⟨pa, pb⟩ := p
      have sT := Same.up (o := .tup [V.int (j : Nat), V.ref u]) hT'
      have acT := ac.ext (extN_of sT) (ac.t.ext sT)
      have euT := acT.s _ _ eu (fun _ z => nomatch z)
      refine ⟨_, _, rfl, SqT.of upd_same, rfl, _, _, rfl, _, _, rfl, rfl, rfl, iteT (B := ∃ R : List (List Int), AccE A H1 D R (upd H2o T' (.tup [V.int (j : Nat), V.ref u])) ∧ R.length = j + 1 ∧ ∀ p, p < j + 1 → RankOk w1 bs p (R.getD p [])) ?_⟩
      generalize upd H2o T' (.tup [V.int (j : Nat), V.ref u]) = H3 at acT euT
      refine iteT ?_
      refine ⟨_, rfl, u, _, _, _, rfl, rfl, SqT.of euT, rfl, _, rfl, u, _, _, _, rfl, rfl, SqT.of euT, rfl, _, _, rfl, rfl, ?_⟩
      have hb1 : (0 : Int) ≤ pa := hb.1
      have hb2 : pa ≤ pb := hb.2.1
      have hb3 : pb ≤ (bs.length : Int) - 1 := hb.2.2
      have ea1 : bA bs j = pa := ea.1
      have ea2 : bB bs j = pb := ea.2
      refine ⟨_, _, rfl, by show -2 ^ 62 ≤ pa ∧ pa < 2 ^ 62 ∧ -2 ^ 62 ≤ pb + 1 ∧ pb + 1 < 2 ^ 62; omega, fun D2 nD2 => ?_⟩
      have er3 := acT.s _ _ er1 (fun _ z => nomatch z)
      have hp3 : PrsAt H3 xs bs := L2.Paired.mapP hp1 fun _ _ ⟨t, q, z⟩ => ⟨t, q, acT.s _ _ z fun _ z => nomatch z⟩
      refine lc_it (walk_range (lo := pa) (n := (pb + 1 - pa).toNat)) (fun i H' => ∃ ks : List Int, (ExtN H3 H' ∧ Tabs (TT A) H') ∧ H' D2 = some (.lst (ks.map V.int)) ∧ ks.length ≤ i ∧ ∀ k, k ∈ ks ↔ (pa ≤ k ∧ k < pa + (i : Nat)) ∧ Fits w1 (fixB bs j k))
        ⟨[], ⟨extN_of (Same.up nD2), acT.t.ext (Same.up nD2)⟩, upd_same, Nat.le_refl _, fun k => ⟨fun z => (nomatch z), fun z => by have := z.1; omega⟩⟩ (fun _ _ _ _ => trivial) ?_ ?_
      · rintro i y H4o H4 hi ⟨ks, ⟨e4, t4⟩, eD, hkl, hks⟩ ⟨rfl, ey⟩
        obtain rfl : y = V.int (pa + (i : Nat)) := ey
        refine ⟨rfl, ?_⟩
        refine ⟨_, rfl, _, rfl, _, rfl, _, rfl, r, w1, j, pa + (i : Nat), xs, bs, rfl, hw, e4 _ _ er3 (fun _ z => nomatch z), L2.Paired.mapP hp3 fun _ _ ⟨t, q, z⟩ => ⟨t, q, e4 _ _ z fun _ z => nomatch z⟩, hn, hok, hjl, by omega, by omega, t4, fun H5 b e5 t5 hbf => ?_⟩
        have eD5 := e5 _ _ eD (fun _ z => nomatch z)
        cases b with
        | true =>
          refine ⟨true, rfl, iteT ⟨_, rfl, _, eD5, by rw [List.length_map, sizeLine_eq]; omega, ks ++ [pa + (i : Nat)], ⟨ext_upd (e4.trans e5) nD2, tabs_upd t5 eD5⟩, by rw [upd_same, List.map_append]; rfl, by rw [List.length_append]; exact Nat.succ_le_succ hkl, fun k => ?_⟩⟩
          rw [List.mem_append, hks, List.mem_singleton]
          constructor
          · rintro (z | z)
            · exact ⟨by omega, z.2⟩
            · rw [z]
              exact ⟨by omega, hbf.mp rfl⟩
          · rintro ⟨z1, z2⟩
            by_cases e : k = pa + (i : Nat)
            · exact .inr e
            · exact .inl ⟨by omega, z2⟩
        | false =>
          refine ⟨false, rfl, iteF ⟨ks, ⟨e4.trans e5, t5⟩, eD5, by omega, fun k => ?_⟩⟩
          rw [hks]
          constructor
          · rintro ⟨z1, z2⟩
            exact ⟨by omega, z2⟩
          · rintro ⟨z1, z2⟩
            by_cases e : k = pa + (i : Nat)
            · rw [e] at z2
              exact nomatch hbf.mpr z2
            · exact ⟨by omega, z2⟩
      · rintro H4 ⟨ks, ⟨e4, t4⟩, eD, hkl, hks⟩
        unfold tNil
        refine tupQ (.inl eD) fun H5 q5 s5 e5 => ?_
        have ac5 := (acT.ext e4 t4).ext (extN_of s5) (t4.ext s5)
        obtain ⟨acc, a1, a2, a3⟩ := ac5.push (x := .ref q5) (l := ks) ⟨q5, rfl, e5⟩ (by rw [sizeLine_eq]; omega)
        refine ⟨acc, a1, a2, R ++ [ks], a3, by rw [List.length_append, hRl]; rfl, fun p hp => ?_⟩
        by_cases e : p = j
        · subst e
          rw [List.getD_eq_getElem?_getD, List.getElem?_append_right (by omega), hRl, Nat.sub_self]
          show RankOk w1 bs p ks
          intro k
          rw [hks, ea1, ea2]
          constructor
          · rintro ⟨z1, z2⟩
            exact ⟨by omega, z2⟩
          · rintro ⟨z1, z2⟩
            exact ⟨by omega, z2⟩
        · rw [List.getD_eq_getElem?_getD, List.getElem?_append_left (by omega), ← List.getD_eq_getElem?_getD]
          exact hR p (by omega)
    · rintro H2 ⟨R, ac, hRl, hR⟩
      rw [hxl] at hRl hR
      obtain ⟨ys, ey, ry⟩ := ac.a
      exact q H2 D ys R ((extN_of s1).trans ac.s) ac.t (s1.free ac.n) ey ry hRl hR
theorem kb_rw2 (T : Tx K mg A) : ∃ mv : List Value, KBn K A.d_ranks_within ["bounds", "arms"] 1 ["arms"] (fun us ws => us ++ (mv ++ ws)) (fun vs zs => vs ++ zs) := by
  obtain ⟨mv, h⟩ := T.F_ranks_within.kbinds0 (ps := ["bounds", "arms"]) 1 ["arms"] [] (fun us mv ws => us ++ (mv ++ ws)) (by simp) (by simp) (fun r1 r2 r3 => r1.append (r2.append r3))
    (fun D doc pm an cdv ct us mv ws h1 h2 h3 => by
      match us, mv, ws, h1, h2, h3 with
      | [a], [], [c], _, _, _ => rfl)
  exact ⟨mv, h⟩

end
end Tw

set_option Elab.async false
set_option linter.all false
set_option maxRecDepth 100000
set_option maxHeartbeats 2000000
namespace Tw
open PySem PySem.Spec PyProof.Rows L2
section
variable {P : Program} {w : World} {K : PySem.W.Frag} {mg : Str → Option Value} {base : Heap} {A : Ad}
open LamX (ExtN Tabs TabS)
def spLPar : Sp := fun vs H Q _ => ∃ (w i : Nat), vs = [.int w, .int i] ∧ (1 ≤ w ∧ w ≤ 4) ∧ 1 ≤ i ∧ Q (.int ((i - 1) / w : Nat)) H
theorem ok_lpar (T : Tx K mg A) : FnOk P w K mg base CX0 2 A.f__law_parent A.d__law_parent ["wide", "place"] spLPar := by
  refine T.F__law_parent.ok sc__law_parent (fun vs H Q E h => ?_) (fun cdv B outer s H vs Q E hr h => ?_)
  · obtain ⟨w, i, rfl, _⟩ := h
    rfl
  · obtain ⟨w, i, rfl, hw, hi, q⟩ := h
    refine ⟨_, pss_one (ps_ret (pe_op op_fdivN (pe_callTy call_int1 (by rfl) T.g_int (by decide +kernel) (pa_cons (pe_op op_sub (pv 1) pe_int) pa_nil)) (pv 0))), ?_⟩
    refine ⟨_, rfl, _, _, rfl, rfl, .inl ⟨_, rfl, _, rfl, _, _, rfl, rfl, ⟨by omega, by omega⟩, ?_⟩⟩
    have e : Int.fdiv ((i : Int) - 1) (w : Int) = ((i - 1) / w : Nat) := by
      rw [Int.fdiv_eq_ediv_of_nonneg _ (by omega), show ((i : Int) - 1) = ((i - 1 : Nat) : Int) by omega]
      rfl
    show Q (V.int (Int.fdiv ((i : Int) - 1) (w : Int))) H
    rw [e]
    exact q
theorem b_lpar (T : Tx K mg A) : L2.Binds K A.d__law_parent ["wide", "place"] [] := T.F__law_parent.binds fun _ _ _ _ _ _ us hl => match us, hl with | [_, _], _ => rfl
def swp (ks : List Int) (a b : Nat) : List Int := (ks.set a (keyAt ks b)).set b (keyAt ks a)
theorem swp_len (ks : List Int) (a b : Nat) : (swp ks a b).length = ks.length := by unfold swp; rw [List.length_set, List.length_set]
def goUp (w : Nat) : Nat → List Int → Nat → List Nat → Nat → List Int × List Nat × Nat
  | 0, ks, _, way, lk => (ks, way, lk)
  | f + 1, ks, p, way, lk => if p = 0 then (ks, way, lk) else
      if keyAt ks p < keyAt ks ((p - 1) / w) then goUp w f (swp ks p ((p - 1) / w)) ((p - 1) / w) (way ++ [(p - 1) / w]) (lk + 1) else (ks, way, lk + 1)
theorem m1 : ¬ (("row" : Str) = "way") := by decide +kernel
theorem set_int (ks : List Int) (p : Nat) (v : Int) : (ks.map V.int).set p (V.int v) = (ks.set p v).map V.int := (List.map_set ..).symm
theorem goUp_stay {w f : Nat} {ks : List Int} {p : Nat} {way : List Nat} {lk : Nat} (h0 : p ≠ 0) (h : ¬ keyAt ks p < keyAt ks ((p - 1) / w)) : goUp w (f + 1) ks p way lk = (ks, way, lk + 1) := by
  rw [goUp, if_neg h0, if_neg h]
theorem goUp_go {w f : Nat} {ks : List Int} {p : Nat} {way : List Nat} {lk : Nat} (h0 : p ≠ 0) (h : keyAt ks p < keyAt ks ((p - 1) / w)) : goUp w (f + 1) ks p way lk = goUp w f (swp ks p ((p - 1) / w)) ((p - 1) / w) (way ++ [(p - 1) / w]) (lk + 1) := by
  rw [goUp, if_neg h0, if_pos h]
theorem goUp_root {w f : Nat} {ks : List Int} {way : List Nat} {lk : Nat} : goUp w f ks 0 way lk = (ks, way, lk) := by
  cases f with
  | zero => rfl
  | succ f => rw [goUp, if_pos rfl]
theorem map_one (l : List Int) (x : Int) : l.map V.int ++ [V.int x] = (l ++ [x]).map V.int := by rw [List.map_append]; rfl
/-- a heap by pushes -/
def pushAll (w : Nat) (ks : List Int) : Nat → List Int
  | 0 => []
  | i + 1 => (goUp w 20 (pushAll w ks i ++ [ks.getD i 0]) i [i] 0).1
def HeapL (n w : Nat) (ks : List Int) : Prop := ∀ c, 1 ≤ c → c < n → keyAt ks ((c - 1) / w) ≤ keyAt ks c
theorem par_lt {w c : Nat} (h : 1 ≤ c) : (c - 1) / w < c := Nat.lt_of_le_of_lt (Nat.div_le_self _ _) (by omega)
theorem keyAt_swp {ks : List Int} {a b p : Nat} (ha : a < ks.length) (hb : b < ks.length) : keyAt (swp ks a b) p = if p = b then keyAt ks a else if p = a then keyAt ks b else keyAt ks p := by
  unfold swp
  rw [keyAt_set (by rw [List.length_set]; exact hb), keyAt_set ha]
theorem up_good {n w : Nat} : ∀ (f : Nat) (ks : List Int) (cur : Nat) (way : List Nat) (lk : Nat), ks.length = n → cur < n → cur ≤ f →
    (∀ c, 1 ≤ c → c < n → c ≠ cur → keyAt ks ((c - 1) / w) ≤ keyAt ks c) → (∀ c, 1 ≤ c → c < n → (c - 1) / w = cur → cur ≠ 0 → keyAt ks ((cur - 1) / w) ≤ keyAt ks c) → HeapL n w (goUp w f ks cur way lk).1
  | 0, ks, cur, way, lk, hl, hc, hf, g, up => fun c h1 h2 => g c h1 h2 (by omega)
  | f + 1, ks, cur, way, lk, hl, hc, hf, g, up => by
    by_cases h0 : cur = 0
    · subst h0
      rw [goUp_root]
      exact fun c h1 h2 => g c h1 h2 (by omega)
    · have hp := par_lt (w := w) (c := cur) (by omega)
      by_cases hlt : keyAt ks cur < keyAt ks ((cur - 1) / w)
      · rw [goUp_go h0 hlt]
        generalize ep : (cur - 1) / w = p at *
        have ka : cur < ks.length := by omega
        have kb : p < ks.length := by omega
        refine up_good f _ p _ _ (by rw [swp_len]; exact hl) (by omega) (by omega) (fun c h1 h2 hcp => ?_) (fun c h1 h2 hcp hp0 => ?_)
        · rw [keyAt_swp ka kb, keyAt_swp ka kb, if_neg hcp]
          by_cases ec : c = cur
          · subst ec
            rw [ep, if_pos rfl, if_pos rfl]
            omega
          · rw [if_neg ec]
            by_cases e1 : (c - 1) / w = p
            · rw [if_pos e1]
              have := g c h1 h2 ec
              rw [e1] at this
              omega
            · rw [if_neg e1]
              by_cases e2 : (c - 1) / w = cur
              · rw [if_pos e2]
                exact up c h1 h2 e2 h0
              · rw [if_neg e2]
                exact g c h1 h2 ec
        · have hpp := par_lt (w := w) (c := p) (by omega)
          have hc1 := par_lt (w := w) h1
          have a := g p (by omega) (by omega) (by omega)
          rw [keyAt_swp ka kb, keyAt_swp ka kb, if_neg (by omega), if_neg (by omega), if_neg (by omega)]
          by_cases ec : c = cur
          · rw [if_pos ec]
            exact a
          · rw [if_neg ec]
            have b := g c h1 h2 ec
            rw [hcp] at b
            omega
      · rw [goUp_stay h0 hlt]
        intro c h1 h2
        by_cases ec : c = cur
        · subst ec
          exact Int.not_lt.mp hlt
        · exact g c h1 h2 ec
theorem swp_perm {ks : List Int} {a b : Nat} (ha : a < ks.length) (hb : b < ks.length) : (swp ks a b).Perm ks := by
  have e1 : keyAt ks a = ks[a] := by unfold keyAt; rw [List.getD_eq_getElem?_getD, List.getElem?_eq_getElem ha]; rfl
  have e2 : keyAt ks b = ks[b] := by unfold keyAt; rw [List.getD_eq_getElem?_getD, List.getElem?_eq_getElem hb]; rfl
  unfold swp
  rw [e1, e2]
  exact List.set_set_perm ha hb
theorem up_perm {w : Nat} : ∀ (f : Nat) (ks : List Int) (cur : Nat) (way : List Nat) (lk : Nat), cur < ks.length → ((goUp w f ks cur way lk).1).Perm ks
  | 0, ks, cur, way, lk, hc => List.Perm.refl _
  | f + 1, ks, cur, way, lk, hc => by
    by_cases h0 : cur = 0
    · subst h0
      rw [goUp_root]
    · have hp := par_lt (w := w) (c := cur) (by omega)
      by_cases hlt : keyAt ks cur < keyAt ks ((cur - 1) / w)
      · rw [goUp_go h0 hlt]
        exact (up_perm f _ _ _ _ (by rw [swp_len]; omega)).trans (swp_perm hc (by omega))
      · rw [goUp_stay h0 hlt]
theorem keyAt_app {ks : List Int} {k : Int} {p : Nat} (h : p < ks.length) : keyAt (ks ++ [k]) p = keyAt ks p := by
  unfold keyAt
  rw [List.getD_eq_getElem?_getD, List.getD_eq_getElem?_getD, List.getElem?_append_left h]
theorem push_ok {w : Nat} {ks : List Int} {k : Int} (hl : ks.length < 12) (h : HeapL ks.length w ks) : HeapL (ks.length + 1) w (goUp w 20 (ks ++ [k]) ks.length [ks.length] 0).1 ∧ ((goUp w 20 (ks ++ [k]) ks.length [ks.length] 0).1).Perm (ks ++ [k]) := by
  have hl2 : (ks ++ [k]).length = ks.length + 1 := by rw [List.length_append]; rfl
  refine ⟨up_good 20 _ _ _ _ hl2 (by omega) (by omega) (fun c h1 h2 hc => ?_) (fun c h1 h2 hc _ => ?_), up_perm 20 _ _ _ _ (by omega)⟩
  · have := par_lt (w := w) h1
    rw [keyAt_app (by omega), keyAt_app (by omega)]
    exact h c h1 (by omega)
  · have := par_lt (w := w) h1
    omega
theorem pushAll_ok {w : Nat} {ks : List Int} (hl : ks.length ≤ 12) : ∀ i, i ≤ ks.length → (pushAll w ks i).length = i ∧ HeapL i w (pushAll w ks i) ∧ (pushAll w ks i).Perm (ks.take i)
  | 0, _ => ⟨rfl, fun c h1 h2 => absurd h2 (by omega), List.Perm.refl _⟩
  | i + 1, hi => by
    obtain ⟨h1, h2, h3⟩ := pushAll_ok (w := w) hl i (by omega)
    have hk : i < ks.length := by omega
    obtain ⟨p1, p2⟩ := push_ok (k := ks.getD i 0) (by omega) (by rw [h1]; exact h2 : HeapL (pushAll w ks i).length w (pushAll w ks i))
    rw [h1] at p1 p2
    have e : pushAll w ks (i + 1) = (goUp w 20 (pushAll w ks i ++ [ks.getD i 0]) i [i] 0).1 := rfl
    rw [e]
    refine ⟨by rw [p2.length_eq, List.length_append, h1]; rfl, p1, p2.trans ?_⟩
    rw [← List.take_append_getElem hk, List.getD_eq_getElem?_getD, List.getElem?_eq_getElem hk]
    exact List.Perm.append_right _ h3
def spLH2 : Sp := fun vs H Q _ => ∃ (a w : Nat) (ks : List Int), vs = [.ref a, .int w] ∧ (1 ≤ w ∧ w ≤ 4) ∧ H a = some (.lst (ks.map V.int)) ∧ ks.length ≤ 12 ∧
  ∀ (H' : Hp) (q : Addr) (ms : List Int), Same H H' → HeapL ms.length w ms → ms.Perm ks → H q = none → H' q = some (.lst (ms.map V.int)) → Q (.ref q) H'
theorem ok_lh (T : Tx K mg A) : FnOk P w K mg base CX0 3 A.f__law_heap A.d__law_heap ["keys", "wide"] spLH2 := by
  refine T.F__law_heap.ok sc__law_heap (fun vs H Q E h => ?_) (fun cdv B outer s H vs Q E hr h => ?_)
  · obtain ⟨a, w, ks, rfl, _⟩ := h
    rfl
  · obtain ⟨a, w, ks, rfl, hw, ha, hl, q⟩ := h
    have nd := sc__law_heap.nd
    refine ⟨_, (pss_cons (ps_set (i := 2) nd rfl (Or.inl rfl) (pe_lst pa_nil))
      (pss_cons (ps_for PassesOwn.never rfl (pi_list (pv 0)) (pg_name (i := 3) nd rfl (Or.inl rfl)) (pss_cons (ps_expr (pe_bm PySem.F.plainAttrs_list PySem.F.slot_list_append PySem.F.type_list_append mt_append (pv 2) (pa_cons (pv 3) pa_nil)))
      (C8.pss_cut (ps_set (i := 4) nd rfl (Or.inl rfl) (pe_op op_sub (pe_callB call_len_seq (by rfl) T.g_len PySem.boot_len (pa_cons (pv 2) pa_nil)) pe_int))
      (pss_one (ps_for PassesOwn.never rfl (pi_range1 rfl T.g_range (pa_cons pe_int pa_nil)) (pg_name (i := 5) nd rfl (Or.inl rfl)) (pss_cons (ps_if (PW.pt (pw_or (pt_cmpR op_eq (pv 4) pe_int (nomark _)) (pw_or1 (pt_cmpR op_le (pe_ix ix_list (pv 2) (pe_call (ok_lpar T) (hr.mono (by decide)) (by rfl) T.m__law_parent T.F__law_parent.kp (b_lpar T) .nil pass0 (pa_cons (pv 1) (pa_cons (pv 4) pa_nil))) (fun _ _ => rfl)) (pe_ix ix_list (pv 2) (pv 4) (fun _ _ => rfl)) (nomark _))))) (pss_one ps_break) pss_nil)
      (pss_cons (ps_set (i := 6) nd rfl (Or.inl rfl) (pe_call (ok_lpar T) (hr.mono (by decide)) (by rfl) T.m__law_parent T.F__law_parent.kp (b_lpar T) .nil pass0 (pa_cons (pv 1) (pa_cons (pv 4) pa_nil))))
      (pss_cons (ps_asg (pe_tup (pa_cons (pe_ix ix_list (pv 2) (pv 6) (fun _ _ => rfl)) (pa_cons (pe_ix ix_list (pv 2) (pv 4) (fun _ _ => rfl)) pa_nil))) (pg_tup rfl (pgs_cons (pg_sub (pv 2) (pv 4) set_list) (pgs_cons (pg_sub (pv 2) (pv 6) set_list) pgs_nil))))
      (pss_one (ps_set (i := 4) nd rfl (Or.inl rfl) (pv 6)))))))))))
      (pss_one (ps_ret (pv 2))))), ?_⟩
    refine ⟨Nat.zero_le _, fun D hD => ?_⟩
    refine ⟨_, rfl, a, rfl, ⟨_, SqL.of ((Same.up hD) _ _ ha)⟩, for_list (K := K) (a := a) (xs := ks.map V.int) (fun i σ H' => ∃ (x3 x4 x5 x6 : Option V), σ = [some (.ref a), some (.int w), some (.ref D), x3, x4, x5, x6] ∧ Acc H D ((pushAll w ks i).map V.int) H')
      ⟨none, none, none, none, rfl, Acc.start hD⟩ (fun i σ H' _ ⟨_, _, _, _, _, ac⟩ => SqL.of (ac.s _ _ ha)) ?_ ?_⟩
    · rintro i x σ H1 hx ⟨x3, x4, x5, x6, rfl, ac⟩
      obtain ⟨hi, rfl⟩ := ints_at hx
      obtain ⟨hml, _, _⟩ := pushAll_ok (w := w) hl i (by omega)
      refine ⟨_, rfl, .inl ⟨rfl, _, SqL.of ac.a⟩, _, rfl, D, _, _, rfl, rfl, ac.a, small1000 (by rw [List.length_map]; omega), ?_⟩
      have ek : ks[i] = ks.getD i 0 := by rw [List.getD_eq_getElem?_getD, List.getElem?_eq_getElem hi]; rfl
      rw [map_one]
      have ac1 : Acc H D ((pushAll w ks i ++ [ks[i]]).map V.int) (upd H1 D (.lst ((pushAll w ks i ++ [ks[i]]).map V.int))) := ac.push
      have hml1 : (pushAll w ks i ++ [ks[i]]).length = i + 1 := by rw [List.length_append, hml]; rfl
      have eR : pushAll w ks (i + 1) = (goUp w 20 (pushAll w ks i ++ [ks[i]]) i [i] 0).1 := by rw [ek]; rfl
      rw [eR]
      generalize pushAll w ks i ++ [ks[i]] = m1 at ac1 hml1
      generalize upd H1 D (.lst (m1.map V.int)) = G1 at ac1
      refine ⟨fun σ' H' => σ' = [some (.ref a), some (.int w), some (.ref D), some (.int ks[i]), some (.int (i : Nat)), x5, x6] ∧ H' = G1, ?_, ?_⟩
      · refine ⟨_, rfl, D, _, rfl, .inl (SqL.of ac1.a), _, _, rfl, rfl, ?_, rfl⟩
        show ([some (.ref a), some (.int w), some (.ref D), some (.int ks[i]), some (V.int (((m1.map V.int).length : Nat) - 1 : Int)), x5, x6] : List (Option V)) = _
        rw [List.length_map, hml1, show (((i + 1 : Nat) : Int) - 1) = (i : Int) by omega]
      rintro σ' H' ⟨rfl, rfl⟩
      refine ⟨20, rfl, by decide, by decide, for_range (n := 20) (fun k σ H' => ∃ (ms : List Int) (p : Nat) (way : List Nat) (lk : Nat) (x3 x5 x6 : Option V), σ = [some (.ref a), some (.int w), some (.ref D), x3, some (.int p), x5, x6] ∧ Acc H D (ms.map V.int) H' ∧ ms.length = i + 1 ∧ p < i + 1 ∧ k ≤ 20 ∧ goUp w 20 m1 i [i] 0 = (goUp w (20 - k) ms p way lk))
        ⟨m1, i, [i], 0, _, _, _, rfl, ac1, hml1, by omega, by omega, rfl⟩ ?_ ?_⟩
      · rintro k σ H2 hk ⟨m2, p, way, lk, y3, y5, y6, rfl, ac2, hml2, hp, hk2, eg⟩
        have ef : 20 - k = (20 - (k + 1)) + 1 := by omega
        rw [ef] at eg
        refine ⟨_, rfl, rfl, _, rfl, ?_⟩
        by_cases h0 : p = 0
        · rw [decide_eq_true (show V.int (p : Nat) = V.int 0 by rw [h0]; rfl)]
          rw [h0, goUp_root] at eg
          rw [eg]
          exact iteT (iteT ⟨_, _, _, _, rfl, ac2⟩)
        · rw [decide_eq_false (show ¬ V.int (p : Nat) = V.int 0 by intro z; injection z with z; omega)]
          have hlt : (p - 1) / w < p := Nat.lt_of_le_of_lt (Nat.div_le_self _ _) (by omega)
          have hq2 : (p - 1) / w < m2.length := by omega
          have hp2 : p < m2.length := by omega
          refine iteF ⟨_, rfl, _, rfl, _, rfl, w, p, rfl, hw, by omega, D, _, _, _, rfl, rfl, SqL.of ac2.a, key_at hq2, _, rfl, _, rfl, D, _, _, _, rfl, rfl, SqL.of ac2.a, key_at hp2, _, _, rfl, rfl, _, rfl, ?_⟩
          by_cases hle : keyAt m2 ((p - 1) / w) ≤ keyAt m2 p
          · rw [decide_eq_true hle]
            rw [goUp_stay h0 (by omega)] at eg
            rw [eg]
            exact iteT ⟨_, _, _, _, rfl, ac2⟩
          rw [decide_eq_false hle]
          refine iteF ?_
          rw [goUp_go h0 (by omega)] at eg
          refine ⟨_, rfl, _, rfl, w, p, rfl, hw, by omega, ?_⟩
          refine ⟨_, rfl, _, rfl, D, _, _, _, rfl, rfl, SqL.of ac2.a, key_at hq2, _, rfl, _, rfl, D, _, _, _, rfl, rfl, SqL.of ac2.a, key_at hp2, by show 2 ≤ sizeLine; decide, fun t ht => ?_⟩
          have ac3 := ac2.same (Same.up (o := .tup [V.int (keyAt m2 ((p - 1) / w)), V.int (keyAt m2 p)]) ht)
          have et : upd H2 t (.tup [V.int (keyAt m2 ((p - 1) / w)), V.int (keyAt m2 p)]) t = some (.tup [V.int (keyAt m2 ((p - 1) / w)), V.int (keyAt m2 p)]) := upd_same
          generalize upd H2 t (.tup [V.int (keyAt m2 ((p - 1) / w)), V.int (keyAt m2 p)]) = G3 at ac3 et
          refine ⟨t, _, rfl, SqT.of et, rfl, _, _, rfl, _, rfl, _, rfl, D, _, _, p, rfl, rfl, ac3.a, ixN_nat (by rw [List.length_map]; exact hp2), ?_⟩
          rw [set_int]
          have ac4 : Acc H D ((m2.set p (keyAt m2 ((p - 1) / w))).map V.int) (upd G3 D (.lst ((m2.set p (keyAt m2 ((p - 1) / w))).map V.int))) := ac3.push
          generalize upd G3 D (.lst ((m2.set p (keyAt m2 ((p - 1) / w))).map V.int)) = G4 at ac4
          refine ⟨_, _, rfl, _, rfl, _, rfl, D, _, _, (p - 1) / w, rfl, rfl, ac4.a, ixN_nat (by rw [List.length_map, List.length_set]; omega), ?_⟩
          rw [set_int, show (m2.set p (keyAt m2 ((p - 1) / w))).set ((p - 1) / w) (keyAt m2 p) = swp m2 p ((p - 1) / w) from rfl]
          exact ⟨rfl, _, rfl, swp m2 p ((p - 1) / w), (p - 1) / w, _, _, _, _, _, rfl, ac4.push, by rw [swp_len]; exact hml2, by omega, by omega, eg⟩
      · rintro σ H2 ⟨m2, p, way, lk, y3, y5, y6, rfl, ac2, hml2, hp, hk2, eg⟩
        rw [show goUp w (20 - 20) m2 p way lk = (m2, way, lk) from rfl] at eg
        rw [eg]
        exact ⟨_, _, _, _, rfl, ac2⟩
    · rintro σ H1 ⟨x3, x4, x5, x6, rfl, ac⟩
      rw [List.length_map] at ac
      obtain ⟨h1, h2, h3⟩ := pushAll_ok (w := w) hl ks.length (Nat.le_refl _)
      rw [List.take_length] at h3
      exact ⟨_, rfl, q _ D _ ac.s (by rw [h1]; exact h2) h3 hD ac.a⟩
theorem b_lh (T : Tx K mg A) : L2.Binds K A.d__law_heap ["keys", "wide"] [] := T.F__law_heap.binds fun _ _ _ _ _ _ us hl => match us, hl with | [_, _], _ => rfl
/-- the draws: a list of the script and of a number -/
structure DrAt (K : PySem.W.Frag) (H : Hp) (d a : Addr) (ns : List Int) (k : Nat) : Prop where
  l : H d = some (.lst [.ref a, .int k])
  n : a ≠ d ∨ ∀ H', SqL K H' a (ns.map V.int)
  s : SqL K H a (ns.map V.int)
  h : ns.length ≤ 63
theorem DrAt.same {K : PySem.W.Frag} {H H' : Hp} {d a : Addr} {ns : List Int} {k : Nat} (h : DrAt K H d a ns k) (s : Same H H') : DrAt K H' d a ns k := ⟨s _ _ h.l, h.n, s.seq h.s, h.h⟩
theorem b_lo (T : Tx K mg A) : L2.Binds K A.d__law_order ["draw", "many"] [] := T.F__law_order.binds fun _ _ _ _ _ _ us hl => match us, hl with | [_, _], _ => rfl
theorem b_lsub (T : Tx K mg A) : L2.Binds K A.d__law_subtree ["wide", "many", "place"] [] := T.F__law_subtree.binds fun _ _ _ _ _ _ us hl => match us, hl with | [_, _, _], _ => rfl
theorem b_lway (T : Tx K mg A) : L2.Binds K A.d__law_way ["wide", "place"] [] := T.F__law_way.binds fun _ _ _ _ _ _ us hl => match us, hl with | [_, _], _ => rfl
theorem b_take (T : Tx K mg A) : L2.Binds K A.d__law_take ["draw", "many"] [] := T.F__law_take.binds fun _ _ _ _ _ _ us hl => match us, hl with | [_, _], _ => rfl
theorem at_perm : ∀ (s : List Int) (j : Nat) (h : j < s.length), (s[j] :: s.eraseIdx j).Perm s
  | a :: l, 0, _ => List.Perm.refl _
  | a :: l, j + 1, h => (List.Perm.swap a _ _).trans ((at_perm l j (Nat.lt_of_succ_lt_succ h)).cons a)
theorem era_map : ∀ (l : List Int) (i : Nat), (l.map V.int).eraseIdx i = (l.eraseIdx i).map V.int
  | [], _ => rfl
  | _ :: _, 0 => rfl
  | a :: l, i + 1 => by
    rw [List.map_cons, List.eraseIdx_cons_succ, List.eraseIdx_cons_succ, List.map_cons, era_map l i]
theorem But.seq {d a : Addr} {H H' : Hp} {xs : List V} (s : But d H H') (h : SqL K H a xs) (n : a ≠ d ∨ ∀ H', SqL K H' a xs) : SqL K H' a xs := by
  rcases n with n | n
  rotate_left
  · exact n _
  rcases h with (h | ⟨o, h⟩) | h
  · exact .inl (.inl (s _ _ n h))
  · exact .inl (.inr ⟨o, s _ _ n h⟩)
  · exact .inr h
theorem emp_eqv : ∀ ns : List Int, PyData.eqv (.list (ns.map PyData.int)) (.list []) = decide (ns = [])
  | [] => by rfl
  | n :: ns => by rfl
theorem cut63 (xs : List V) (h : xs.length ≤ 63) : cutV xs none (some 63) = xs := by
  unfold cutV
  rw [HT.sIx_none, show (63 : Int) = ((63 : Nat) : Int) from rfl, HT.sIx_nat, List.drop_zero, Nat.min_eq_right h, Nat.sub_zero, List.take_length]
def spNum (K : PySem.W.Frag) : Sp := fun vs H Q _ => ∃ (a : Addr) (ns : List Int) (i : Nat), vs = [.ref a, .int i] ∧ SqL K H a (ns.map V.int) ∧ ns.length ≤ 63 ∧ i < 1000000 ∧ ∀ H' r, Same H H' → Q (.int r) H'
theorem ok_num (T : Tx K mg A) : FnOk P w K mg base CX0 2 A.f__law_number A.d__law_number ["script", "index"] (spNum K) := by
  refine T.F__law_number.ok sc__law_number (fun vs H Q E h => ?_) (fun cdv B outer s H vs Q E hr h => ?_)
  · obtain ⟨a, ns, i, rfl, _⟩ := h
    rfl
  · obtain ⟨a, ns, i, rfl, ha, hl, hi, q⟩ := h
    have nd := sc__law_number.nd
    have hu := hr.units
    refine ⟨_, C8.pss_cut (ps_set (i := 2) nd rfl (Or.inl rfl) (pe_ifExp (pt_cmpR (op_neD hu) (pv 0) (pe_lst pa_nil) (nomark _)) (pe_slice sl_list (pv 0) po_none (po_some pe_int)) (pe_lst (pa_cons pe_int pa_nil))))
      (pss_cons (ps_set (i := 3) nd rfl (Or.inl rfl) (pe_op op_add
        (pe_ix ix_list (pv 2) (pe_op op_mod (pe_callTy call_int1 (by rfl) T.g_int (by decide +kernel) (pa_cons (pv 1) pa_nil)) (pe_callB call_len_seq (by rfl) T.g_len PySem.boot_len (pa_cons (pv 2) pa_nil))) (fun _ _ => rfl))
        (pe_op op_mul pe_int (pe_op op_fdivN (pv 1) (pe_callB call_len_seq (by rfl) T.g_len PySem.boot_len (pa_cons (pv 2) pa_nil))))))
      (pss_cons (ps_par (i := 4) (j := 5) rfl nd rfl rfl (by decide) rfl rfl (pa_cons (pe_op op_mod (pe_callTy call_int1 (by rfl) T.g_int (by decide +kernel) (pa_cons (pv 3) pa_nil)) pe_int)
          (pa_cons (pe_op op_mod (pe_callTy call_int1 (by rfl) T.g_int (by decide +kernel) (pa_cons (pe_op op_fdivN (pv 3) pe_int) pa_nil)) pe_int) pa_nil)) rfl)
      (pss_cons (ps_set (i := 6) nd rfl (Or.inl rfl) (pe_op op_mod (pe_callTy call_int1 (by rfl) T.g_int (by decide +kernel) (pa_cons (pe_callB (cr_sum rfl) (by rfl) T.g_sum (by decide +kernel) (pa_cons (pv 2) pa_nil)) pa_nil)) pe_int))
      (pss_cons (ps_set (i := 7) nd rfl (Or.inl rfl) (pe_op op_mod (pe_callTy call_int1 (by rfl) T.g_int (by decide +kernel) (pa_cons
          (pe_op op_add (pe_op op_add (pe_op op_mul (pe_op op_add (pv 4) (pe_op op_mul pe_int (pv 1))) pe_int) (pe_op op_mul pe_int (pv 5))) (pv 6)) pa_nil)) pe_int))
      (pss_one (ps_ret (pe_op op_add (pe_op op_mul (pe_op op_mod (pe_callTy call_int1 (by rfl) T.g_int (by decide +kernel) (pa_cons
          (pe_op op_mul (pv 7) (pe_op op_add (pe_op op_add (pv 7) (pe_op op_mul pe_int (pv 1))) pe_int)) pa_nil)) pe_int) pe_int) (pv 5)))))))), ?_⟩
    refine ⟨fun σ H1 => ∃ (c : Addr) (cs : List Int), σ = [some (.ref a), some (.int i), some (.ref c), none, none, none, none, none] ∧ Same H H1 ∧ H1 c = some (.lst (cs.map V.int)) ∧ 0 < cs.length ∧ cs.length ≤ 63, ?_, ?_⟩
    · refine ⟨_, rfl, Nat.zero_le _, fun l0 hl0 => ?_⟩
      have hs0 : Same H (upd H l0 (.lst [])) := Same.up hl0
      refine ⟨.list (ns.map PyData.int), .list [], .lst (hs0.seq ha) (ints_dp _ _ _), .lst (SqL.of upd_same) .nil, ?_, rfl, _, rfl, ?_⟩
      · exact shaped_ints _
      · rw [emp_eqv]
        by_cases e : ns = []
        · rw [decide_eq_true e]
          refine iteF ⟨by show 1 ≤ sizeLine; decide, fun l1 hl1 => ⟨l1, [5], rfl, hs0.trans (Same.up hl1), upd_same, by decide, by decide⟩⟩
        · rw [decide_eq_false e]
          refine iteT ⟨_, rfl, _, rfl, a, _, rfl, hs0.seq ha, fun l1 hl1 => ⟨l1, ns, rfl, hs0.trans (Same.up hl1), ?_, ?_, hl⟩⟩
          · rw [upd_same]
            exact congrArg (fun z => some (HO.lst z)) (cut63 _ (by rw [List.length_map]; exact hl))
          · exact List.length_pos_iff.mpr e
    · rintro σ H1 ⟨c, cs, rfl, s1, hc, h0, h63⟩
      have hq := SqL.of (K := K) hc
      have hL : ((cs.map V.int).length : Int) = (cs.length : Int) := by rw [List.length_map]
      have hm0 : 0 ≤ (i : Int) % (cs.length : Int) := Int.emod_nonneg _ (by omega)
      have hm1 : (i : Int) % (cs.length : Int) < (cs.length : Int) := Int.emod_lt_of_pos _ (by omega)
      obtain ⟨j, hj⟩ : ∃ j : Nat, (i : Int) % (cs.length : Int) = (j : Int) := ⟨_, (Int.toNat_of_nonneg hm0).symm⟩
      have hjl : j < cs.length := by omega
      have hat : atI (cs.map V.int) ((i : Int) % ((cs.map V.int).length : Int)) = some (V.int cs[j]) := by
        rw [hL, hj]
        exact atI_nat (by rw [List.getElem?_map, List.getElem?_eq_getElem hjl]; rfl)
      refine ⟨_, rfl, _, rfl, .inl ⟨_, rfl, _, rfl, c, _, rfl, .inl hq, _, _, rfl, rfl, ?_, c, _, _, _, rfl, rfl, hq, hat, _, rfl, _, rfl, c, _, rfl, .inl hq, _, _, rfl, rfl, ⟨?_, ?_⟩, _, _, rfl, rfl, .inl ⟨by decide, by decide⟩, _, _, rfl, rfl, ?_⟩⟩
      · show (0 : Int) < ((cs.map V.int).length : Int)
        omega
      · omega
      · omega
      · refine ⟨_, rfl, .inl ⟨_, rfl, _, _, rfl, rfl, by show (0 : Int) < 1000003; decide, ?_⟩⟩
        refine ⟨_, rfl, _, _, rfl, rfl, ⟨by decide, by decide⟩, .inl ⟨_, rfl, _, _, rfl, rfl, by show (0 : Int) < 999983; decide, _, _, rfl, ?_⟩⟩
        refine ⟨_, rfl, c, cs, rfl, hq, .inl ⟨_, rfl, _, _, rfl, rfl, by show (0 : Int) < 65521; decide, ?_⟩⟩
        refine ⟨_, rfl, _, rfl, _, _, rfl, rfl, .inl ⟨by decide, by decide⟩, _, _, rfl, rfl, _, _, rfl, rfl, .inr ⟨by decide, by decide⟩, ?_⟩
        refine ⟨_, rfl, _, _, rfl, rfl, .inl ⟨by decide, by decide⟩, _, _, rfl, rfl, _, rfl, _, _, rfl, rfl, .inl ⟨_, rfl, _, _, rfl, rfl, by show (0 : Int) < 2147483647; decide, ?_⟩⟩
        refine ⟨_, rfl, _, rfl, _, rfl, _, _, rfl, rfl, .inl ⟨by decide, by decide⟩, _, _, rfl, rfl, _, _, rfl, rfl, _, _, rfl, rfl, .inl ⟨?_, ?_⟩, .inl ⟨_, rfl, _, _, rfl, rfl, by show (0 : Int) < 2147483629; decide, ?_⟩⟩
        · have := Int.emod_nonneg ((((cs[j] + 13 * Int.fdiv (i : Int) ((cs.map V.int).length : Int)) % 1000003 + 977 * (i : Int)) * 48271 + 31 * (Int.fdiv (cs[j] + 13 * Int.fdiv (i : Int) ((cs.map V.int).length : Int)) 1000003 % 999983)) + cs.sum % 65521) (show (2147483647 : Int) ≠ 0 by decide)
          omega
        · have := Int.emod_lt_of_pos ((((cs[j] + 13 * Int.fdiv (i : Int) ((cs.map V.int).length : Int)) % 1000003 + 977 * (i : Int)) * 48271 + 31 * (Int.fdiv (cs[j] + 13 * Int.fdiv (i : Int) ((cs.map V.int).length : Int)) 1000003 % 999983)) + cs.sum % 65521) (show (0 : Int) < 2147483647 by decide)
          omega
        · exact ⟨_, _, rfl, rfl, .inr ⟨by decide, by decide⟩, _, rfl, _, _, rfl, rfl, q _ _ s1⟩
theorem b_num (T : Tx K mg A) : L2.Binds K A.d__law_number ["script", "index"] [] := T.F__law_number.binds fun _ _ _ _ _ _ us hl => match us, hl with | [_, _], _ => rfl
def spTake (K : PySem.W.Frag) : Sp := fun vs H Q _ => ∃ (d a : Addr) (ns : List Int) (k m : Nat), vs = [.ref d, .int m] ∧ DrAt K H d a ns k ∧ k < 100000 ∧ 0 < m ∧
  ∀ (H' : Hp) (r : Nat), But d H H' → DrAt K H' d a ns (k + 1) → r < m → Q (.int r) H'
theorem ok_take (T : Tx K mg A) : FnOk P w K mg base CX0 3 A.f__law_take A.d__law_take ["draw", "many"] (spTake K) := by
  refine T.F__law_take.ok sc__law_take (fun vs H Q E h => ?_) (fun cdv B outer s H vs Q E hr h => ?_)
  · obtain ⟨d, a, ns, k, m, rfl, _⟩ := h
    rfl
  · obtain ⟨d, a, ns, k, m, rfl, ⟨hl, hn, hs, h63⟩, hk, hm, q⟩ := h
    refine ⟨_, pss_cons (ps_asg (pe_op op_add (pe_ix ix_list (pv 0) pe_int (fun _ _ => rfl)) pe_int) (pg_sub (pv 0) pe_int set_list))
      (pss_one (ps_ret (pe_op op_mod (pe_callTy call_int1 (by rfl) T.g_int (by decide +kernel) (pa_cons
        (pe_call (ok_num T) hr (by rfl) T.m__law_number T.F__law_number.kp (b_num T) .nil pass0 (pa_cons (pe_ix ix_list (pv 0) pe_int (fun _ _ => rfl))
          (pa_cons (pe_callTy call_int1 (by rfl) T.g_int (by decide +kernel) (pa_cons (pe_ix ix_list (pv 0) pe_int (fun _ _ => rfl)) pa_nil)) pa_nil))) pa_nil)) (pv 1)))), ?_⟩
    have at1 : atI [V.ref a, V.int (k : Nat)] 1 = some (V.int (k : Nat)) := rfl
    refine ⟨_, rfl, d, _, _, _, rfl, rfl, SqL.of hl, at1, _, _, rfl, rfl, _, rfl, d, _, _, 1, rfl, rfl, hl, rfl, ?_⟩
    have e1 : upd H d (.lst (([V.ref a, V.int (k : Nat)]).set 1 (V.int ((k : Int) + 1)))) d = some (.lst [V.ref a, V.int ((k + 1 : Nat) : Int)]) := by
      rw [upd_same]
      rfl
    have b1 : But d H (upd H d (.lst (([V.ref a, V.int (k : Nat)]).set 1 (V.int ((k : Int) + 1))))) := But.put
    have s1 := b1.seq hs hn
    refine ⟨_, rfl, d, _, _, _, rfl, rfl, SqL.of e1, rfl, _, rfl, d, _, _, _, rfl, rfl, SqL.of e1, rfl, .inl ⟨_, rfl, a, ns, k + 1, rfl, s1, h63, by omega, fun H2 r s2 => ?_⟩⟩
    refine .inl ⟨_, rfl, _, rfl, _, _, rfl, rfl, by show (0 : Int) < (m : Nat); omega, ?_⟩
    have m0 := Int.emod_nonneg r (show ((m : Nat) : Int) ≠ 0 by omega)
    have m1 := Int.emod_lt_of_pos r (show (0 : Int) < (m : Nat) by omega)
    obtain ⟨z, hz⟩ : ∃ z : Nat, r % (m : Nat) = (z : Int) := ⟨_, (Int.toNat_of_nonneg m0).symm⟩
    have h := q H2 z (b1.trans (But.of s2)) ⟨s2 _ _ e1, hn, s2.seq s1, h63⟩ (by omega)
    rw [← hz] at h
    exact h
def rgI (n : Nat) : List Int := (List.range n).map fun i => ((i : Nat) : Int)
theorem rgI_len (n : Nat) : (rgI n).length = n := by
  unfold rgI
  rw [List.length_map, List.length_range]
theorem rgI_pl (n : Nat) : pl n = (rgI n).map V.int := by
  unfold pl rgI
  rw [List.map_map]
  rfl
/-- an order of the first numbers -/
def spLO (K : PySem.W.Frag) : Sp := fun vs H Q _ => ∃ (d a : Addr) (ns : List Int) (k n : Nat), vs = [.ref d, .int n] ∧ DrAt K H d a ns k ∧ k < 50000 ∧ n ≤ 12 ∧
  ∀ (H' : Hp) (q : Addr) (os : List Int) (k' : Nat), But d H H' → DrAt K H' d a ns k' → k' ≤ k + 12 → os.Perm (rgI n) → H q = none → H' q = some (.lst (os.map V.int)) → Q (.ref q) H'
theorem ok_lo (T : Tx K mg A) : FnOk P w K mg base CX0 4 A.f__law_order A.d__law_order ["draw", "many"] (spLO K) := by
  refine T.F__law_order.ok sc__law_order (fun vs H Q E h => ?_) (fun cdv B outer s H vs Q E hr h => ?_)
  · obtain ⟨d, a, ns, k, n, rfl, _⟩ := h
    rfl
  · obtain ⟨d, a, ns, k, n, rfl, dr, hk, hn, q⟩ := h
    have nd := sc__law_order.nd
    refine ⟨_, (pss_cons (ps_par (i := 2) (j := 3) rfl nd rfl rfl (by decide) rfl rfl (pa_cons (pe_listRg rfl (by rfl) T.g_list (prg_1 (by rfl) T.g_range (pv 1))) (pa_cons (pe_lst pa_nil) pa_nil)) rfl)
      (C8.pss_cut (ps_for PassesOwn.never rfl (pi_range1 rfl T.g_range (pa_cons (pv 1) pa_nil)) (pg_name (i := 4) nd rfl (Or.inl rfl)) (pss_one (ps_expr (pe_bm PySem.F.plainAttrs_list PySem.F.slot_list_append PySem.F.type_list_append mt_append (pv 3) (pa_cons (pe_bm PySem.F.plainAttrs_list PySem.F.slot_list_pop PySem.F.type_list_pop mt_popAt (pv 2) (pa_cons (pe_call (ok_take T) (hr.mono (by decide)) (by rfl) T.m__law_take T.F__law_take.kp (b_take T) .nil pass0 (pa_cons (pv 0) (pa_cons (pe_callB call_len_seq (by rfl) T.g_len PySem.boot_len (pa_cons (pv 2) pa_nil)) pa_nil))) pa_nil)) pa_nil)))))
      (pss_one (ps_ret (pv 3))))), ?_⟩
    refine ⟨_, rfl, _, rfl, RgOk.of_le (by omega) (by omega) (by omega) (by omega), fun L nL => ?_⟩
    refine ⟨Nat.zero_le _, fun O nO => ⟨_, _, rfl, ?_⟩⟩
    have sL : Same H (upd H L (.lst (rgV 0 (n : Nat)))) := Same.up nL
    have nO0 := sL.free nO
    have hLO : O ≠ L := fun z => by
      rw [z, upd_same] at nO
      cases nO
    have hLd : L ≠ d := fun z => by rw [z, dr.l] at nL; cases nL
    have hOd : O ≠ d := fun z => by rw [z, dr.l] at nO0; cases nO0
    have s0 : Same H (upd (upd H L (.lst (rgV 0 (n : Nat)))) O (.lst [])) := sL.trans (Same.up nO)
    refine ⟨fun σ' H' => (∃ x4 : Option V, σ' = [some (.ref d), some (.int n), some (.ref L), some (.ref O), x4]) ∧ ∃ os : List Int, H' O = some (.lst (os.map V.int)) ∧ os.Perm (rgI n) ∧ But d H H' ∧ DrAt K H' d a ns (k + n), ?_, ?_⟩
    · refine ⟨_, rfl, _, rfl, by omega, by omega, ?_⟩
      rw [Int.toNat_natCast]
      refine for_it (walk_range (lo := 0) (n := n)) (fun i σ' H' => (∃ x4 : Option V, σ' = [some (.ref d), some (.int n), some (.ref L), some (.ref O), x4]) ∧ ∃ ls os : List Int, H' L = some (.lst (ls.map V.int)) ∧ H' O = some (.lst (os.map V.int)) ∧ (os ++ ls).Perm (rgI n) ∧ os.length = i ∧ But d H H' ∧ DrAt K H' d a ns (k + i))
        ⟨⟨none, rfl⟩, rgI n, [], ?_, upd_same, List.Perm.refl _, rfl, But.of s0, ⟨s0 _ _ dr.l, dr.n, s0.seq dr.s, dr.h⟩⟩ (fun i σ' H' _ _ => trivial) ?_ ?_
      · rw [upd_ne hLO.symm, upd_same, rg_pl, rgI_pl]
      · rintro i x σ' H2 H3 hi ⟨⟨x4, rfl⟩, ls, os, eL, eO, perm, hoi, b2, dr2⟩ ⟨rfl, ex⟩
        have hln := perm.length_eq
        rw [List.length_append, rgI_len] at hln
        refine ⟨_, rfl, .inl ⟨rfl, _, SqL.of eO⟩, _, rfl, .inl ⟨rfl, _, SqL.of eL⟩, _, rfl, _, rfl, L, _, rfl, .inl (SqL.of eL), ?_⟩
        refine ⟨d, a, ns, k + i, ls.length, by rw [List.length_map]; rfl, dr2, by omega, by omega, fun H4 r b4 dr4 hr4 => ?_⟩
        have eL4 := b4 _ _ hLd eL
        have eO4 := b4 _ _ hOd eO
        refine ⟨L, _, _, r, V.int ls[r], rfl, rfl, eL4, by omega, by omega, ?_, ?_, ?_⟩
        · unfold seqIndex?
          rw [List.length_map]
          simp
          omega
        · rw [List.getElem?_map, List.getElem?_eq_getElem hr4]
          rfl
        have bb : ∀ zs zs2 : List V, But d H (upd (upd H4 L (.lst zs)) O (.lst zs2)) := fun zs zs2 b o hb e => by
          rw [upd_ne (ne_of_none e nO0), upd_ne (ne_of_none e nL)]
          exact b4 _ _ hb (b2 b o hb e)
        have eO5 : ∀ zs : List V, upd H4 L (.lst zs) O = some (.lst (os.map V.int)) := fun zs => by rw [upd_ne hLO]; exact eO4
        refine ⟨O, _, _, rfl, rfl, eO5 _, by rw [List.length_map, sizeLine_eq]; omega, ⟨_, rfl⟩, ls.eraseIdx r, os ++ [ls[r]], ?_, ?_, ?_, by rw [List.length_append, hoi]; rfl, bb _ _, ⟨?_, dr4.n, (bb _ _).seq dr.s dr.n, dr4.h⟩⟩
        · rw [upd_ne hLO.symm, upd_same, era_map]
        · rw [upd_same, List.map_append]
          rfl
        · rw [List.append_assoc]
          exact ((at_perm ls r hr4).append_left os).trans perm
        · rw [upd_ne hOd.symm, upd_ne hLd.symm]
          exact dr4.l
      · rintro σ' H2 ⟨⟨x4, rfl⟩, ls, os, eL, eO, perm, hoi, b2, dr2⟩
        have hln := perm.length_eq
        rw [List.length_append, rgI_len] at hln
        obtain rfl : ls = [] := List.length_eq_zero_iff.mp (by omega)
        rw [List.append_nil] at perm
        exact ⟨⟨x4, rfl⟩, os, eO, perm, b2, dr2⟩
    · rintro σ' H2 ⟨⟨x4, rfl⟩, os, eO, perm, b2, dr2⟩
      exact ⟨_, rfl, q H2 O os _ b2 dr2 (by omega) perm nO0 eO⟩
end
end Tw

set_option Elab.async false
set_option linter.all false
set_option maxRecDepth 100000
set_option maxHeartbeats 2000000
namespace Tw
open PySem PySem.Spec PyProof.Rows L2
section
variable {P : Program} {w : World} {K : PySem.W.Frag} {mg : Str → Option Value} {base : Heap} {A : Ad}
open LamX (ExtN Tabs TabS)
theorem sub_pick (n w i : Nat) : vi (subL n w i) = (List.range n).filterMap fun j => if i ∈ wayL w j then some (V.int (j : Nat)) else none := by
  unfold vi subL
  induction List.range n with
  | nil => rfl
  | cons a l ih =>
    by_cases h : i ∈ wayL w a
    · rw [List.filter_cons_of_pos (by simp [h]), List.map_cons, ih, List.filterMap_cons, if_pos h]
    · rw [List.filter_cons_of_neg (by simp [h]), ih, List.filterMap_cons, if_neg h]
def spLWay : Sp := fun vs H Q _ => ∃ (w i : Nat), vs = [.int w, .int i] ∧ (1 ≤ w ∧ w ≤ 4) ∧ i ≤ 12 ∧ ∀ H' q, Same H H' → H q = none → H' q = some (.lst (vi (wayL w i))) → Q (.ref q) H'
theorem up_head : ∀ w, w < 5 → ∀ p, p < 13 → 1 ≤ w → upL w p = p :: (upL w p).tail := by decide +kernel
theorem way_len : ∀ w, w < 5 → ∀ p, p < 13 → 1 ≤ w → (wayL w p).length ≤ 13 := by decide +kernel
theorem ok_lway (T : Tx K mg A) : FnOk P w K mg base CX0 3 A.f__law_way A.d__law_way ["wide", "place"] spLWay := by
  refine T.F__law_way.ok sc__law_way (fun vs H Q E h => ?_) (fun cdv B outer s H vs Q E hr h => ?_)
  · obtain ⟨w, i, rfl, _⟩ := h
    rfl
  · obtain ⟨w, i, rfl, hw, hi, q⟩ := h
    have nd := sc__law_way.nd
    refine ⟨_, pss_cons (ps_set (i := 2) nd rfl (Or.inl rfl) (pe_lst (pa_cons (pv 1) pa_nil)))
      (pss_cons (ps_for PassesOwn.never rfl (pi_range1 rfl T.g_range (pa_cons pe_int pa_nil)) (pg_name (i := 3) nd rfl (Or.inl rfl))
        (pss_cons (ps_if (pt_cmpR op_eq (pe_ix ix_list (pv 2) pe_int (fun _ _ => rfl)) pe_int (nomark _)) (pss_one (ps_ret (pv 2))) pss_nil)
        (pss_one (ps_set (i := 2) nd rfl (Or.inl rfl) (pe_op op_cat (pe_lst (pa_cons (pe_call (ok_lpar T) hr (by rfl) T.m__law_parent T.F__law_parent.kp (b_lpar T) .nil pass0 (pa_cons (pv 0) (pa_cons (pe_ix ix_list (pv 2) pe_int (fun _ _ => rfl)) pa_nil))) pa_nil)) (pv 2))))))
      (pss_one (ps_ret (pv 2)))), ?_⟩
    refine ⟨_, rfl, by show 1 ≤ sizeLine; decide, fun d hd => ?_⟩
    refine ⟨20, rfl, by decide, by decide, for_range (n := 20) (fun k σ H' => ∃ (c : Nat) (L : List Nat) (a : Addr) (z : Option V), σ = [some (.int w), some (.int i), some (.ref a), z] ∧ Same H H' ∧ H a = none ∧ H' a = some (.lst (vi (c :: L))) ∧
      wayL w i = (upL w c).tail.reverse ++ (c :: L) ∧ c + k ≤ 12) ⟨i, [], d, none, rfl, Same.up hd, hd, upd_same, ?_, by omega⟩ ?_ ?_⟩
    · unfold wayL
      have h := up_head w (by omega) i (by omega) hw.1
      rw [h, List.reverse_cons]
      rfl
    · rintro k σ H' hk ⟨c, L, a, z, rfl, s1, a0, ha, eq, hc⟩
      have hat : atI (vi (c :: L)) 0 = some (V.int (c : Nat)) := atI_nat (j := 0) rfl
      refine ⟨_, rfl, a, _, _, _, rfl, rfl, SqL.of ha, hat, rfl, _, rfl, ?_⟩
      by_cases h0 : c = 0
      · rw [decide_eq_true (show V.int (c : Nat) = V.int 0 by rw [h0]; rfl)]
        refine iteT ⟨_, rfl, q _ a s1 a0 ?_⟩
        subst h0
        have e0 := up_eq w (by omega) 0 (by omega) hw.1
        rw [if_pos rfl] at e0
        rw [e0] at eq
        rw [ha, eq]
        rfl
      · rw [decide_eq_false (show ¬ V.int (c : Nat) = V.int 0 by intro z; injection z with z; omega)]
        refine iteF ?_
        have hlt : (c - 1) / w < c := Nat.lt_of_le_of_lt (Nat.div_le_self _ _) (by omega)
        have e1 := up_eq w (by omega) c (by omega) hw.1
        rw [if_neg h0] at e1
        have e2 := up_head w (by omega) ((c - 1) / w) (by omega) hw.1
        have hlen : (c :: L).length ≤ 13 := by
          have h3 := way_len w (by omega) i (by omega) hw.1
          rw [eq, List.length_append] at h3
          omega
        refine ⟨_, rfl, _, rfl, a, _, _, _, rfl, rfl, SqL.of ha, hat, w, c, rfl, hw, by omega, by show 1 ≤ sizeLine; decide, fun a2 ha2 => ?_⟩
        have s2 : Same H' (upd H' a2 (.lst [V.int ((c - 1) / w : Nat)])) := Same.up ha2
        refine ⟨_, rfl, a2, a, _, _, rfl, rfl, upd_same, s2 _ _ ha, ?_, fun a3 ha3 => ?_⟩
        · rw [vi_len]
          exact Nat.le_of_lt (small1000 (by rw [List.length_singleton]; omega))
        · refine ⟨(c - 1) / w, c :: L, a3, _, rfl, s1.trans (s2.trans (Same.up ha3)), (s1.trans s2).free ha3, upd_same, ?_, by omega⟩
          rw [eq, e1, List.tail_cons]
          conv => lhs; rw [e2]
          rw [List.reverse_cons, List.append_assoc]
          rfl
    · rintro σ H' ⟨c, L, a, z, rfl, s1, a0, ha, eq, hc⟩
      omega
def spLSub : Sp := fun vs H Q _ => ∃ (w n i : Nat), vs = [.int w, .int n, .int i] ∧ (1 ≤ w ∧ w ≤ 4) ∧ n ≤ 12 ∧ i < n ∧ ∀ H' q, Same H H' → H q = none → H' q = some (.lst (vi (subL n w i))) → Q (.ref q) H'
theorem ok_lsub (T : Tx K mg A) : FnOk P w K mg base CX0 4 A.f__law_subtree A.d__law_subtree ["wide", "many", "place"] spLSub := by
  refine T.F__law_subtree.ok sc__law_subtree (fun vs H Q E h => ?_) (fun cdv B outer s H vs Q E hr h => ?_)
  · obtain ⟨w, n, i, rfl, _⟩ := h
    rfl
  · obtain ⟨w, n, i, rfl, hw, hn, hi, q⟩ := h
    have nd := sc__law_subtree.nd
    refine ⟨_, pss_one (ps_ret (pe_lc (own := [("other", 3)]) (g := gName 3) rfl nd (pi_range1 rfl T.g_range (pa_cons (pv 1) pa_nil)) (blkOk_by (own := [("other", 3)]) (N := ["wide", "many", "place", "other"]) (sc := defScope s__law_subtree) (by decide +kernel))
      (fun _ _ _ _ _ => pg_name (i := 3) nd rfl (Or.inl rfl))
      (fun _ _ _ _ _ => pts_one (pt_cmpR (r := L2.rIn K false) op_in_seq (pv 2) (pe_call (ok_lway T) hr (by rfl) T.m__law_way T.F__law_way.kp (b_lway T) .nil pass0 (pa_cons (pv 0) (pa_cons (pv 3) pa_nil))) (by rfl))) (fun _ _ _ _ _ => pv 3))), ?_⟩
    refine ⟨_, rfl, _, rfl, by omega, by omega, fun D hD => ?_⟩
    rw [Int.toNat_natCast]
    refine lc_it (walk_range (lo := 0) (n := n)) (PickI H D (List.range n) fun j => if i ∈ wayL w j then some (V.int (j : Nat)) else none) (pick_start hD) (fun k H' _ h => trivial) ?_ ?_
    · rintro k x H2 H3 hk pk ⟨rfl, ex⟩
      have ex2 : x = V.int (k : Nat) := ex.trans (by show V.int (0 + (k : Int)) = _; rw [Int.zero_add])
      subst ex2
      have hk' : k < (List.range n).length := by rw [List.length_range]; exact hk
      refine ⟨rfl, _, rfl, _, rfl, _, rfl, w, k, rfl, hw, by omega, fun H4 r s4 r0 hr4 => ?_⟩
      refine ⟨r, _, rfl, .inl (SqL.of hr4), rfl, vi_flat _, _, rfl, ?_⟩
      show if (inV (V.int (i : Nat)) (vi (wayL w k))) = true then _ else _
      rw [mem_vi]
      by_cases hm : i ∈ wayL w k
      · rw [decide_eq_true hm]
        exact iteT ⟨_, rfl, pick_yes hk' (by rw [List.length_range]; omega) (by rw [List.getElem_range, if_pos hm]) s4 pk⟩
      · rw [decide_eq_false hm]
        exact iteF (pick_no hk' (by rw [List.getElem_range, if_neg hm]) s4 pk)
    · intro H2 pk
      have ac := pick_end (by rw [List.length_range]) pk
      refine q _ D ac.s hD ?_
      rw [ac.a, sub_pick]
theorem up_trans0 : ∀ w, w < 5 → ∀ y, y < 13 → 1 ≤ w → ((wayL w y).all fun x => (wayL w x).all fun p => decide (p ∈ wayL w y)) = true := by decide +kernel
theorem up_trans (w : Nat) (h5 : w < 5) (y : Nat) (hy : y < 13) (h1 : 1 ≤ w) (x : Nat) (hx : x ∈ wayL w y) (p : Nat) (hp : p ∈ wayL w x) : p ∈ wayL w y :=
  of_decide_eq_true (List.all_eq_true.mp (List.all_eq_true.mp (up_trans0 w h5 y hy h1) x hx) p hp)
theorem DrAt.start {K : PySem.W.Frag} {H : Hp} {d a : Addr} {ns : List Int} (ha : SqL K H a (ns.map V.int)) (hl : ns.length ≤ 63) (hd : H d = none) : DrAt K (upd H d (.lst [.ref a, .int 0])) d a ns 0 := by
  refine ⟨upd_same, ?_, (Same.up hd).seq ha, hl⟩
  rcases ha with (h | ⟨o, h⟩) | h
  · exact .inl (ne_of_none h hd)
  · exact .inl (ne_of_none h hd)
  · exact .inr fun H' => .inr h
end
end Tw

set_option Elab.async false
set_option linter.all false
set_option maxRecDepth 100000
set_option maxHeartbeats 2000000
namespace Tw
open PySem PySem.Spec PyProof.Rows L2
section
variable {P : Program} {w : World} {K : PySem.W.Frag} {mg : Str → Option Value} {base : Heap} {A : Ad}
open LamX (ExtN Tabs TabS)
/-! the law's own bounds: ok_lway spLWay b_lway ok_lsub spLSub b_lsub way_rec par_way sub_mem up_self up_le up_trans way_len wayL subL ok_take spTake b_take DrAt DrAt.same But But.of But.trans Acc Acc.start Acc.push Acc.same PrsAt PrsAt.same PrsAt.push prs_get walk_enum walk_enumT walk_list walk_range key_at keyAt vi viAt vi_at vi_len sizeLine_eq AllT small1000 ok_lo b_lo spLO HeapL rgI spLH2 ixN_nat ints_at k04:ok_lh -/
def mL (bs : List (Int × Int)) (W : List Nat) (j : Nat) : List Int := (List.range j).map fun i => bA bs (W.getD i 0) + (W.length : Int) - 1 - (i : Int)
theorem mL_snoc (bs : List (Int × Int)) (W : List Nat) (j : Nat) : mL bs W (j + 1) = mL bs W j ++ [bA bs (W.getD j 0) + (W.length : Int) - 1 - (j : Int)] := by
  unfold mL
  rw [List.range_succ, List.map_append]
  rfl
theorem mem_mL {bs : List (Int × Int)} {W : List Nat} {x : Int} : x ∈ mL bs W W.length ↔ ∃ i, i < W.length ∧ x = bA bs (W.getD i 0) + (W.length : Int) - 1 - (i : Int) := by
  unfold mL
  rw [List.mem_map]
  exact ⟨fun ⟨i, hi, e⟩ => ⟨i, List.mem_range.mp hi, e.symm⟩, fun ⟨i, hi, e⟩ => ⟨i, List.mem_range.mpr hi, e.symm⟩⟩
theorem mL_app {bs : List (Int × Int)} {W : List Nat} {c : Nat} {x : Int} : x ∈ mL bs (W ++ [c]) (W ++ [c]).length ↔ (∃ y ∈ mL bs W W.length, x = y + 1) ∨ x = bA bs c := by
  rw [mem_mL, List.length_append, List.length_singleton]
  constructor
  · rintro ⟨i, hi, rfl⟩
    by_cases e : i < W.length
    · refine .inl ⟨_, mem_mL.mpr ⟨i, e, rfl⟩, ?_⟩
      rw [List.getD_eq_getElem?_getD, List.getElem?_append_left e, ← List.getD_eq_getElem?_getD]
      omega
    · have : i = W.length := by omega
      subst this
      refine .inr ?_
      rw [List.getD_eq_getElem?_getD, List.getElem?_append_right (Nat.le_refl _), Nat.sub_self]
      show bA bs c + _ - 1 - _ = _
      omega
  · rintro (⟨y, hy, rfl⟩ | rfl)
    · obtain ⟨i, hi, rfl⟩ := mem_mL.mp hy
      refine ⟨i, by omega, ?_⟩
      rw [List.getD_eq_getElem?_getD, List.getD_eq_getElem?_getD, List.getElem?_append_left hi]
      omega
    · refine ⟨W.length, by omega, ?_⟩
      rw [List.getD_eq_getElem?_getD, List.getElem?_append_right (Nat.le_refl _), Nat.sub_self]
      show _ = bA bs c + _ - 1 - _
      omega
def nL (w : Nat) (bs : List (Int × Int)) (p j : Nat) : List Int := ((subL bs.length w p).take j).map fun o => bB bs o - (((wayL w o).length : Int) - (wayL w p).length)
structure MustI (w : Nat) (bs : List (Int × Int)) (m : Nat) (ps : List (Int × Int)) : Prop where
  len : ps.length = m
  l : ∀ p, p < m → bA ps p ∈ mL bs (wayL w p) (wayL w p).length ∧ ∀ x ∈ mL bs (wayL w p) (wayL w p).length, x ≤ bA ps p
  g : ∀ p, p < m → bB ps p ∈ nL w bs p (subL bs.length w p).length ∧ ∀ x ∈ nL w bs p (subL bs.length w p).length, bB ps p ≤ x
theorem mem_nL {w p : Nat} {bs : List (Int × Int)} {x : Int} : x ∈ nL w bs p (subL bs.length w p).length ↔ ∃ o, (o < bs.length ∧ p ∈ wayL w o) ∧ x = bB bs o - (((wayL w o).length : Int) - (wayL w p).length) := by
  unfold nL
  rw [List.take_length, List.mem_map]
  exact ⟨fun ⟨o, ho, e⟩ => ⟨o, sub_mem.mp ho, e.symm⟩, fun ⟨o, ho, e⟩ => ⟨o, sub_mem.mpr ho, e.symm⟩⟩
/-- the next place below -/
theorem way_next {w : Nat} (hw : 1 ≤ w ∧ w ≤ 4) : ∀ i o p, o ≤ i → o ≤ 12 → p ∈ wayL w o → o ≠ p → ∃ c, 0 < c ∧ (c - 1) / w = p ∧ c ∈ wayL w o
  | i, o, p, hi, ho, hp, hne => by
    by_cases o0 : o = 0
    · have := up_le w (by omega) o (by omega) hw.1 p hp
      omega
    · match i, hi with
      | 0, hi => omega
      | i + 1, hi =>
        have hr := way_rec w o hw ho (by omega)
        have hlt := par_ltB (w := w) (c := o) (by omega)
        by_cases e : (o - 1) / w = p
        · exact ⟨o, by omega, e, up_self w (by omega) o (by omega) hw.1⟩
        · rw [hr] at hp
          rcases List.mem_append.mp hp with hp | hp
          · obtain ⟨c, c0, c1, c2⟩ := way_next hw i ((o - 1) / w) p (by omega) (by omega) hp e
            refine ⟨c, c0, c1, ?_⟩
            rw [hr]
            exact List.mem_append_left _ c2
          · exact absurd (List.mem_singleton.mp hp).symm hne
theorem must_told {w : Nat} {bs ps : List (Int × Int)} (hw : 1 ≤ w ∧ w ≤ 4) (hn : bs.length ≤ 12) (h : MustI w bs bs.length ps) : Told w bs (bA ps) (bB ps) := by
  have wl : ∀ c, 0 < c → c < bs.length → (wayL w c).length = (wayL w ((c - 1) / w)).length + 1 := fun c c0 cn => by
    rw [way_rec w c hw (by omega) c0, List.length_append]
    rfl
  have pc : ∀ c, 0 < c → c < bs.length → ∀ o, o < bs.length → c ∈ wayL w o → (c - 1) / w ∈ wayL w o := fun c c0 cn o ho hc =>
    up_trans w (by omega) o (by omega) hw.1 c hc _ (par_way w c hw (by omega) c0)
  have hl0 : ∀ p, p < bs.length → bA bs p ≤ bA ps p := fun p hp => by
    refine (h.l p hp).2 _ ?_
    by_cases p0 : p = 0
    · subst p0
      have e0 : wayL w 0 = [] ++ [0] := by
        unfold wayL
        rw [up_eq w (by omega) 0 (by omega) hw.1, if_pos rfl]
        rfl
      rw [e0]
      exact mL_app.mpr (.inr rfl)
    · rw [way_rec w p hw (by omega) (by omega)]
      exact mL_app.mpr (.inr rfl)
  have hlc : ∀ c, 0 < c → c < bs.length → bA ps ((c - 1) / w) + 1 ≤ bA ps c := fun c c0 cn => by
    have hlt := par_ltB (w := w) (c := c) c0
    refine (h.l c cn).2 _ ?_
    rw [way_rec w c hw (by omega) c0]
    exact mL_app.mpr (.inl ⟨_, (h.l _ (by omega)).1, rfl⟩)
  have hg0 : ∀ p, p < bs.length → bB ps p ≤ bB bs p := fun p hp => by
    have := (h.g p hp).2 _ (mem_nL.mpr ⟨p, ⟨hp, up_self w (by omega) p (by omega) hw.1⟩, rfl⟩)
    omega
  have hgc : ∀ c, 0 < c → c < bs.length → bB ps ((c - 1) / w) ≤ bB ps c - 1 := fun c c0 cn => by
    have hlt := par_ltB (w := w) (c := c) c0
    obtain ⟨o, ⟨ho, hco⟩, e⟩ := mem_nL.mp (h.g c cn).1
    have := (h.g ((c - 1) / w) (by omega)).2 _ (mem_nL.mpr ⟨o, ⟨ho, pc c c0 cn o ho hco⟩, rfl⟩)
    have := wl c c0 cn
    omega
  refine ⟨hl0, hlc, fun p hp => ?_, hg0, hgc, fun p hp => ?_⟩
  · by_cases p0 : p = 0
    · subst p0
      have e0 : wayL w 0 = [] ++ [0] := by
        unfold wayL
        rw [up_eq w (by omega) 0 (by omega) hw.1, if_pos rfl]
        rfl
      have := (h.l 0 hp).1
      rw [e0] at this
      rcases mL_app.mp this with ⟨y, hy, _⟩ | e
      · exact nomatch hy
      · exact .inl e
    · have hlt := par_ltB (w := w) (c := p) (by omega)
      have := (h.l p hp).1
      rw [way_rec w p hw (by omega) (by omega)] at this
      rcases mL_app.mp this with ⟨y, hy, e⟩ | e
      · have h1 := (h.l ((p - 1) / w) (by omega)).2 y hy
        have h2 := hlc p (by omega) hp
        exact .inr ⟨by omega, by omega⟩
      · exact .inl e
  · obtain ⟨o, ⟨ho, hpo⟩, e⟩ := mem_nL.mp (h.g p hp).1
    by_cases eo : o = p
    · subst eo
      exact .inl (by omega)
    · obtain ⟨c, c0, c1, c2⟩ := way_next hw o o p (Nat.le_refl _) (by omega) hpo eo
      have hco := up_le w (by omega) o (by omega) hw.1 c c2
      have h1 := (h.g c (by omega)).2 _ (mem_nL.mpr ⟨o, ⟨ho, c2⟩, rfl⟩)
      have h2 := hgc c c0 (by omega)
      have h3 := wl c c0 (by omega)
      rw [c1] at h2 h3
      exact .inr ⟨c, c0, by omega, c1, by omega⟩
def spLfi : Sp := fun vs H Q _ => ∃ (t r : Addr) (xs : List V) (bs : List (Int × Int)) (ks : List Int), vs = [.ref t, .ref r] ∧ H t = some (.tup (ks.map V.int)) ∧ H r = some (.lst xs) ∧ PrsAt H xs bs ∧ ks.length = bs.length ∧ bs.length ≤ 12 ∧ (∀ p, p < bs.length → bA bs p ≤ keyAt ks p ∧ keyAt ks p ≤ bB bs p) ∧
  ∀ H' : Hp, Same H H' → Q (.bl true) H'
theorem ok_lfi (T : Tx K mg A) : FnOk P w K mg base CX0 1 A.f__law_fits A.d__law_fits ["row", "bounds"] spLfi := by
  refine T.F__law_fits.ok sc__law_fits (fun vs H Q E h => ?_) (fun cdv B outer s H vs Q E hr h => ?_)
  · obtain ⟨t, r, xs, bs, ks, rfl, _⟩ := h
    rfl
  · obtain ⟨t, r, xs, bs, ks, rfl, et, er, hps, hkl, hn, hin, q⟩ := h
    have nd := sc__law_fits.nd
    have hxl := Paired.length hps
    refine ⟨_, (pss_one (ps_ret (pe_callB (cr_all rfl) (by rfl) T.g_all (by decide +kernel) (pa_cons (pe_lc (own := [("place", 2), ("pair", 3)]) (g := gTup K 2 (gCons (gName 2) (gCons (gName 3) (gNil)))) (tt := tYes) rfl nd (pi_enS (by rfl) T.g_enumerate (pa_cons (pv 1) pa_nil)) (blkOk_by (own := [("place", 2), ("pair", 3)]) (N := ["row", "bounds", "place", "pair"]) (sc := defScope s__law_fits) (by decide +kernel)) (fun _ _ _ _ _ => (pg_tup rfl (pgs_cons (pg_name (i := 2) nd rfl (Or.inl rfl)) (pgs_cons (pg_name (i := 3) nd rfl (Or.inl rfl)) pgs_nil)))) (fun _ _ _ _ _ => pts_nil) (fun _ _ _ _ _ => (pe_chain op_le op_le (pe_ix (r := rIxT K) ix_tup (pv 3) pe_int (fun _ _ => rfl)) (pe_ix (r := rIxT K) ix_tup (pv 0) (pv 2) (fun _ _ => rfl)) (pe_ix (r := rIxT K) ix_tup (pv 3) pe_int (fun _ _ => rfl))))) pa_nil)))), ?_⟩
    refine ⟨_, rfl, r, _, rfl, .inl ⟨SqL.of er, fun D nD => ?_⟩⟩
    refine lc_it (walk_enum (xs := xs)) (fun j H' => AllT H D j H') (AllT.start nD) (fun j H' _ ac => SqL.of (ac.s _ _ er)) ?_ ?_
    · rintro j y H2 H3 hj ac ⟨T', x', x2, rfl, hT, rfl, e1, e2⟩
      cases e1
      obtain ⟨p, ep, u, rfl, eu⟩ := prs_get hps e2
      have hb := hin j (by omega)
      have ea : bA bs j = p.1 ∧ bB bs j = p.2 := by
        unfold bA bB
        rw [List.getD_eq_getElem?_getD, ep]
        exact ⟨rfl, rfl⟩
      rw [ea.1, ea.2] at hb
      have hjk : j < ks.length := by omega
      have st := Same.up (o := .tup [V.int (j : Nat), V.ref u]) hT
      have ac3 := ac.same st
      have eu3 := st _ _ (ac.s _ _ eu)
      refine ⟨_, _, rfl, SqT.of upd_same, rfl, _, _, rfl, _, _, rfl, rfl, rfl, iteT (B := AllT H D (j + 1) (upd H2 T' (.tup [V.int (j : Nat), V.ref u]))) ?_⟩
      generalize upd H2 T' (.tup [V.int (j : Nat), V.ref u]) = G3 at ac3 eu3
      have et3 := ac3.s _ _ et
      refine ⟨_, rfl, u, _, _, _, rfl, rfl, SqT.of eu3, rfl, _, rfl, _, rfl, t, _, _, _, rfl, rfl, SqT.of et3, key_at hjk, _, _, rfl, rfl, _, rfl, ?_⟩
      refine ite_b (c := true) (decide_eq_true hb.1) (iteT ⟨_, rfl, u, _, _, _, rfl, rfl, SqT.of eu3, rfl, _, _, rfl, rfl, ?_⟩)
      obtain ⟨acc, a1, a2, a3⟩ := ac3.push (by rw [sizeLine_eq]; omega)
      refine ⟨acc, a1, a2, ?_⟩
      show AllT H D _ (upd G3 D (.lst (acc ++ [V.bl (decide (keyAt ks j ≤ p.2))])))
      rw [decide_eq_true hb.2]
      exact a3
    · intro H2 ac
      obtain ⟨cs, b1, _, b3⟩ := ac
      refine ⟨D, cs, rfl, SqL.of b3.a, ?_⟩
      rw [b1]
      exact q H2 b3.s
theorem b_lfi (T : Tx K mg A) : L2.Binds K A.d__law_fits ["row", "bounds"] [] := T.F__law_fits.binds fun _ _ _ _ _ _ us hl => match us, hl with | [_, _], _ => rfl

end
end Tw

set_option Elab.async false
set_option linter.all false
set_option maxRecDepth 100000
set_option maxHeartbeats 2000000
namespace Tw
open PySem PySem.Spec PyProof.Rows L2
section
variable {P : Program} {w : World} {K : PySem.W.Frag} {mg : Str → Option Value} {base : Heap} {A : Ad}
open LamX (ExtN Tabs TabS)
/-- in an ascending list, those that are greater than an item stand behind it -/
theorem above : ∀ {l : List Nat} (_ : l.Pairwise (· < ·)) {i : Nat} (h : i < l.length), (l.filter fun y => decide (l[i] < y)).length = l.length - 1 - i
  | a :: l, hp, 0, _ => by
    have h := List.pairwise_cons.mp hp
    show ((a :: l).filter fun y => decide (a < y)).length = _
    rw [List.filter_cons_of_neg (by simp), List.filter_eq_self.mpr fun y hy => by simpa using h.1 y hy]
    simp
  | a :: l, hp, i + 1, hi => by
    have h := List.pairwise_cons.mp hp
    have hi2 : i < l.length := Nat.lt_of_succ_lt_succ hi
    show ((a :: l).filter fun y => decide (l[i] < y)).length = _
    have := h.1 _ (List.getElem_mem hi2)
    rw [List.filter_cons_of_neg (by simp; omega), above h.2 hi2, List.length_cons]
    omega
def upB (n w : Nat) : Bool := (List.range n).all fun i => (subL n w i).all fun e => decide (e < n) && decide ((wayL w i).length ≤ (wayL w e).length)
theorem up_all : ∀ n, n < 13 → ∀ w, w < 5 → 1 ≤ w → upB n w = true := by decide +kernel
theorem sub_up {n w i e : Nat} (hn : n ≤ 12) (hw : 1 ≤ w ∧ w ≤ 4) (hi : i < n) (he : e ∈ subL n w i) : e < n ∧ (wayL w i).length ≤ (wayL w e).length := by
  have h := List.all_eq_true.mp (List.all_eq_true.mp (up_all n (by omega) w (by omega) hw.1) i (List.mem_range.mpr hi)) e he
  obtain ⟨a, b⟩ := Bool.and_eq_true_iff.mp h
  exact ⟨of_decide_eq_true a, of_decide_eq_true b⟩
end
end Tw

set_option Elab.async false
set_option linter.all false
set_option maxRecDepth 100000
set_option maxHeartbeats 2000000
namespace Tw
open PySem PySem.Spec PyProof.Rows L2
section
variable {P : Program} {w : World} {K : PySem.W.Frag} {mg : Str → Option Value} {base : Heap} {A : Ad}
open LamX (ExtN Tabs TabS)
/-! the law's own bounds, the program: ok_lway spLWay b_lway ok_lsub spLSub b_lsub sub_up way_len sub_mem Acc Acc.start Acc.push Acc.same PrAt PrsAt PrsAt.same PrsAt.push prs_get walk_enum walk_list walk_range key_at keyAt vi viAt vi_at vi_len sizeLine_eq small1000 DrAt DrAt.same But But.of But.trans -/
structure AccQ (H1 : Hp) (D : Addr) (ps : List (Int × Int)) (H : Hp) : Prop where
  s : Same H1 H
  n : H1 D = none
  a : ∃ xs, H D = some (.lst xs) ∧ PrsAt H xs ps
theorem prs_putD {H : Hp} {D : Addr} {o2 : HO} {zs : List V} (hD : H D = some (.lst zs)) {xs : List V} {ps : List (Int × Int)} (h : PrsAt H xs ps) : PrsAt (upd H D o2) xs ps :=
  L2.Paired.mapP h fun _ _ ⟨t, q, z⟩ => ⟨t, q, by rw [upd_ne (ne_of z hD (by intro y; cases y))]; exact z⟩
theorem AccQ.same {H1 H H' : Hp} {D : Addr} {ps : List (Int × Int)} (h : AccQ H1 D ps H) (s : Same H H') : AccQ H1 D ps H' := ⟨h.s.trans s, h.n, let ⟨xs, a, b⟩ := h.a; ⟨xs, s _ _ a, b.same s⟩⟩
theorem AccQ.push {H1 H : Hp} {D : Addr} {ps : List (Int × Int)} {x : V} {p : Int × Int} (h : AccQ H1 D ps H) (hx : PrAt H x p) (hl : ps.length < sizeLine) : ∃ acc, H D = some (.lst acc) ∧ acc.length < sizeLine ∧ AccQ H1 D (ps ++ [p]) (upd H D (.lst (acc ++ [x]))) := by
  obtain ⟨s, n, xs, e, z⟩ := h
  refine ⟨xs, e, by rw [Paired.length z]; exact hl, fun b o k => ?_, n, xs ++ [x], upd_same, prs_putD e (PrsAt.push hx z)⟩
  rw [upd_ne (ne_of_none k n)]
  exact s b o k
theorem must_snoc {w m : Nat} {bs ps : List (Int × Int)} {l g : Int} (h : MustI w bs m ps) (hl : l ∈ mL bs (wayL w m) (wayL w m).length ∧ ∀ x ∈ mL bs (wayL w m) (wayL w m).length, x ≤ l)
    (hg : g ∈ nL w bs m (subL bs.length w m).length ∧ ∀ x ∈ nL w bs m (subL bs.length w m).length, g ≤ x) : MustI w bs (m + 1) (ps ++ [(l, g)]) := by
  have k : ∀ p, p < m + 1 → (p < m ∧ bA (ps ++ [(l, g)]) p = bA ps p ∧ bB (ps ++ [(l, g)]) p = bB ps p) ∨ (p = m ∧ bA (ps ++ [(l, g)]) p = l ∧ bB (ps ++ [(l, g)]) p = g) := fun p hp => by
    have hlen := h.len
    unfold bA bB
    by_cases e : p < m
    · rw [List.getD_eq_getElem?_getD, List.getElem?_append_left (by omega), ← List.getD_eq_getElem?_getD]
      exact .inl ⟨e, rfl, rfl⟩
    · have : p = m := by omega
      subst this
      rw [List.getD_eq_getElem?_getD, List.getElem?_append_right (by omega), hlen, Nat.sub_self]
      exact .inr ⟨rfl, rfl, rfl⟩
  refine ⟨by rw [List.length_append, h.len]; rfl, fun p hp => ?_, fun p hp => ?_⟩
  · rcases k p hp with ⟨a, b, c⟩ | ⟨a, b, c⟩
    · rw [b]
      exact h.l p a
    · rw [b, a]
      exact hl
  · rcases k p hp with ⟨a, b, c⟩ | ⟨a, b, c⟩
    · rw [c]
      exact h.g p a
    · rw [c, a]
      exact hg
def spLmu : Sp := fun vs H Q _ => ∃ (r w : Nat) (xs : List V) (bs : List (Int × Int)), vs = [.ref r, .int w] ∧ (1 ≤ w ∧ w ≤ 4) ∧ H r = some (.lst xs) ∧ PrsAt H xs bs ∧ bs.length ≤ 12 ∧
  ∀ (H' : Hp) (q : Addr) (ys : List V) (ps : List (Int × Int)), Same H H' → H q = none → H' q = some (.lst ys) → PrsAt H' ys ps → ps.length = bs.length → Told w bs (bA ps) (bB ps) → Q (.ref q) H'
theorem prs_at {H : Hp} {xs : List V} {bs : List (Int × Int)} (h : PrsAt H xs bs) {i : Nat} (hi : i < bs.length) : ∃ u, atI xs ((i : Nat) : Int) = some (.ref u) ∧ H u = some (.tup [.int (bA bs i), .int (bB bs i)]) := by
  have hx : i < xs.length := by rw [Paired.length h]; exact hi
  obtain ⟨p, ep, u, eu, e⟩ := prs_get h (List.getElem?_eq_getElem hx)
  refine ⟨u, ?_, ?_⟩
  · unfold atI
    rw [ixN_nat hx, ← eu]
    exact List.getElem?_eq_getElem hx
  · unfold bA bB
    rw [List.getD_eq_getElem?_getD, ep]
    exact e
theorem ok_lmu (T : Tx K mg A) : FnOk P w K mg base CX0 8 A.f__law_must A.d__law_must ["bounds", "wide"] spLmu := by
  refine T.F__law_must.ok sc__law_must (fun vs H Q E h => ?_) (fun cdv B outer s H vs Q E hr h => ?_)
  · obtain ⟨r, w, xs, bs, rfl, _⟩ := h
    rfl
  · obtain ⟨r, w1, xs, bs, rfl, hw, er, hps, hn, q⟩ := h
    have nd := sc__law_must.nd
    have hxl := Paired.length hps
    refine ⟨_, PSs.nox (C8.pss_cut (ps_par (i := 2) (j := 3) rfl nd rfl rfl (by decide) rfl rfl (pa_cons (pe_callB (r := rLn K) call_len_seq (by rfl) T.g_len PySem.boot_len (pa_cons (pv 0) pa_nil)) (pa_cons (pe_lst pa_nil) pa_nil)) rfl)
      (C8.pss_cut (ps_for PassesOwn.never rfl (pi_range1 rfl T.g_range (pa_cons (pv 2) pa_nil)) (pg_name (i := 4) nd rfl (Or.inl rfl)) (C8.pss_cut (ps_set (i := 5) nd rfl (Or.inr rfl) (pe_call (ok_lway T) (hr.mono (by decide)) (by rfl) T.m__law_way T.F__law_way.kp (b_lway T) .nil pass0 (pa_cons (pv 1) (pa_cons (pv 4) pa_nil))))
      (C8.pss_cut (ps_set (i := 6) nd rfl (Or.inl rfl) (pe_callB (r := rMax K) (cr_max rfl) (by rfl) T.g_max (by decide +kernel) (pa_cons (pe_lc (own := [("at", 9), ("above", 10)]) (g := gTup K 2 (gCons (gName 9) (gCons (gName 10) (gNil)))) (tt := tYes) rfl nd (pi_enS (by rfl) T.g_enumerate (pa_cons (pv 5) pa_nil)) (blkOk_by (own := [("at", 9), ("above", 10)]) (N := ["bounds", "wide", "many", "found", "place", "way", "least", "below", "steps", "at", "above", "other"]) (sc := defScope s__law_must) (by decide +kernel)) (fun _ _ _ _ _ => (pg_tup rfl (pgs_cons (pg_name (i := 9) nd rfl (Or.inl rfl)) (pgs_cons (pg_name (i := 10) nd rfl (Or.inl rfl)) pgs_nil)))) (fun _ _ _ _ _ => pts_nil) (fun _ _ _ _ _ => (pe_op op_sub (pe_op op_sub (pe_op op_add (pe_ix (r := rIxT K) ix_tup (pe_ix (r := rIxL K) ix_list (pv 0) (pv 10) (fun _ _ => rfl)) pe_int (fun _ _ => rfl)) (pe_callB (r := rLn K) call_len_seq (by rfl) T.g_len PySem.boot_len (pa_cons (pv 5) pa_nil))) pe_int) (pv 9)))) pa_nil)))
      (C8.pss_cut (ps_set (i := 7) nd rfl (Or.inl rfl) (pe_call (ok_lsub T) (hr.mono (by decide)) (by rfl) T.m__law_subtree T.F__law_subtree.kp (b_lsub T) .nil pass0 (pa_cons (pv 1) (pa_cons (pv 2) (pa_cons (pv 4) pa_nil)))))
      (C8.pss_cut (ps_set (i := 8) nd rfl (Or.inr rfl) (pe_lc (own := [("other", 11)]) (g := gName 11) (tt := tYes) rfl nd (pi_list (pv 7)) (blkOk_by (own := [("other", 11)]) (N := ["bounds", "wide", "many", "found", "place", "way", "least", "below", "steps", "at", "above", "other"]) (sc := defScope s__law_must) (by decide +kernel)) (fun _ _ _ _ _ => pg_name (i := 11) nd rfl (Or.inl rfl)) (fun _ _ _ _ _ => pts_nil) (fun _ _ _ _ _ => (pe_op op_sub (pe_callB (r := rLn K) call_len_seq (by rfl) T.g_len PySem.boot_len (pa_cons (pe_call (ok_lway T) (hr.mono (by decide)) (by rfl) T.m__law_way T.F__law_way.kp (b_lway T) .nil pass0 (pa_cons (pv 1) (pa_cons (pv 11) pa_nil))) pa_nil)) (pe_callB (r := rLn K) call_len_seq (by rfl) T.g_len PySem.boot_len (pa_cons (pv 5) pa_nil))))))
      (pss_one (ps_expr (pe_bm PySem.F.plainAttrs_list PySem.F.slot_list_append PySem.F.type_list_append mt_append (pv 3) (pa_cons (pe_tup (pa_cons (pv 6) (pa_cons (pe_callB (r := rMin K) (cr_min rfl) (by rfl) T.g_min (by decide +kernel) (pa_cons (pe_lc (own := [("at", 9), ("other", 11)]) (g := gTup K 2 (gCons (gName 9) (gCons (gName 11) (gNil)))) (tt := tYes) rfl nd (pi_enS (by rfl) T.g_enumerate (pa_cons (pv 7) pa_nil)) (blkOk_by (own := [("at", 9), ("other", 11)]) (N := ["bounds", "wide", "many", "found", "place", "way", "least", "below", "steps", "at", "above", "other"]) (sc := defScope s__law_must) (by decide +kernel)) (fun _ _ _ _ _ => (pg_tup rfl (pgs_cons (pg_name (i := 9) nd rfl (Or.inl rfl)) (pgs_cons (pg_name (i := 11) nd rfl (Or.inl rfl)) pgs_nil)))) (fun _ _ _ _ _ => pts_nil) (fun _ _ _ _ _ => (pe_op op_sub (pe_ix (r := rIxT K) ix_tup (pe_ix (r := rIxL K) ix_list (pv 0) (pv 11) (fun _ _ => rfl)) pe_int (fun _ _ => rfl)) (pe_ix (r := rIxL K) ix_list (pv 8) (pv 9) (fun _ _ => rfl))))) pa_nil)) pa_nil))) pa_nil)))))))))
      (pss_one (ps_ret (pv 3))))), ?_⟩
    refine ⟨fun σ' H' => ∃ D : Addr, σ' = [some (.ref r), some (.int w1), some (.int bs.length), some (.ref D), none, none, none, none, none, none, none, none] ∧ AccQ H D [] H', ?_, ?_⟩
    · refine ⟨_, rfl, r, _, rfl, .inl (SqL.of er), by show 0 ≤ sizeLine; decide, fun D nD => ⟨_, _, rfl, D, by rw [hxl]; rfl, Same.up nD, nD, [], upd_same, .nil⟩⟩
    rintro σ' H1 ⟨D, rfl, ac1⟩
    refine ⟨fun σ' H' => ∃ (x4 x5 x6 x7 x8 : Option V) (ps : List (Int × Int)), σ' = [some (.ref r), some (.int w1), some (.int bs.length), some (.ref D), x4, x5, x6, x7, x8, none, none, none] ∧ AccQ H D ps H' ∧ MustI w1 bs bs.length ps, ?_, ?_⟩
    · refine ⟨_, rfl, _, rfl, by omega, by omega, ?_⟩
      refine for_it (walk_range (lo := 0) (n := bs.length)) (fun m σ' H' => ∃ (x4 x5 x6 x7 x8 : Option V) (ps : List (Int × Int)), σ' = [some (.ref r), some (.int w1), some (.int bs.length), some (.ref D), x4, x5, x6, x7, x8, none, none, none] ∧ AccQ H D ps H' ∧ MustI w1 bs m ps)
        ⟨none, none, none, none, none, [], rfl, ac1, ⟨rfl, fun p h => absurd h (Nat.not_lt_zero p), fun p h => absurd h (Nat.not_lt_zero p)⟩⟩ (fun _ _ _ _ _ => trivial) ?_ (fun σ' H' h => h)
      rintro m y σ' Ho H2 hm ⟨x4, x5, x6, x7, x8, ps, rfl, ac2, hM⟩ ⟨rfl, ey⟩
      obtain rfl : y = V.int (m : Nat) := ey.trans (by show V.int (0 + (m : Int)) = _; rw [Int.zero_add])
      have hwl := way_len w1 (by omega) m (by omega) hw.1
      have hwn : ∀ x ∈ wayL w1 m, x < bs.length := fun x hx => by
        have := up_le w1 (by omega) m (by omega) hw.1 x hx
        omega
      refine ⟨fun σ' H' => ∃ q5 : Addr, σ' = [some (.ref r), some (.int w1), some (.int bs.length), some (.ref D), some (.int (m : Nat)), some (.ref q5), x6, x7, x8, none, none, none] ∧ AccQ H D ps H' ∧ H' q5 = some (.lst (vi (wayL w1 m))), ?_, ?_⟩
      · exact ⟨_, rfl, _, rfl, w1, m, rfl, hw, by omega, fun H3 q5 s3 n3 e3 => ⟨q5, rfl, ac2.same s3, e3⟩⟩
      rintro σ' H3 ⟨q5, rfl, ac3, e5⟩
      refine ⟨fun σ' H' => ∃ l : Int, σ' = [some (.ref r), some (.int w1), some (.int bs.length), some (.ref D), some (.int (m : Nat)), some (.ref q5), some (.int l), x7, x8, none, none, none] ∧ (AccQ H D ps H' ∧ H' q5 = some (.lst (vi (wayL w1 m)))) ∧ l ∈ mL bs (wayL w1 m) (wayL w1 m).length ∧ ∀ x ∈ mL bs (wayL w1 m) (wayL w1 m).length, x ≤ l, ?_, ?_⟩
      · refine ⟨_, rfl, q5, _, rfl, .inl ⟨SqL.of e5, fun D2 nD2 => ?_⟩⟩
        have hpos : 0 < (wayL w1 m).length := List.length_pos_of_mem (up_self w1 (by omega) m (by omega) hw.1)
        refine lc_it (walk_enum (xs := vi (wayL w1 m))) (fun j H' => Acc H3 D2 ((mL bs (wayL w1 m) j).map V.int) H') (Acc.start nD2) (fun j H' _ ac => SqL.of (ac.s _ _ e5)) ?_ ?_
        · rintro j y H4o H4 hj ac ⟨T', x', x2, rfl, hT, rfl, ej, e2⟩
          cases ej
          obtain ⟨hj2, rfl⟩ := viAt e2
          have hjn := hwn _ (List.getElem_mem hj2)
          have eg : (wayL w1 m)[j] = (wayL w1 m).getD j 0 := by rw [List.getD_eq_getElem?_getD, List.getElem?_eq_getElem hj2]; rfl
          rw [eg] at hjn ⊢
          rw [mL_snoc]
          have sT := Same.up (o := .tup [V.int (j : Nat), V.int ((wayL w1 m).getD j 0 : Nat)]) hT
          have acT := ac.same sT
          refine ⟨_, _, rfl, SqT.of upd_same, rfl, _, _, rfl, _, _, rfl, rfl, rfl, iteT (B := Acc H3 D2 ((mL bs (wayL w1 m) j ++ [bA bs ((wayL w1 m).getD j 0) + ((wayL w1 m).length : Int) - 1 - (j : Int)]).map V.int) (upd H4o T' (.tup [V.int (j : Nat), V.int ((wayL w1 m).getD j 0 : Nat)]))) ?_⟩
          generalize upd H4o T' (.tup [V.int (j : Nat), V.int ((wayL w1 m).getD j 0 : Nat)]) = H5 at acT
          generalize (wayL w1 m).getD j 0 = x at *
          have s5 := ac3.s.trans acT.s
          obtain ⟨u, eu, ett⟩ := prs_at (hps.same s5) hjn
          refine ⟨_, rfl, _, rfl, r, _, _, _, rfl, rfl, SqL.of (s5 _ _ er), eu, u, _, _, _, rfl, rfl, SqT.of ett, rfl, ?_⟩
          refine ⟨_, rfl, q5, _, rfl, .inl (SqL.of (acT.s _ _ e5)), _, _, rfl, rfl, _, _, rfl, rfl, _, rfl, _, _, rfl, rfl, ?_⟩
          refine ⟨_, acT.a, by unfold mL; rw [List.length_map, List.length_map, List.length_range, sizeLine_eq]; omega, ?_⟩
          rw [vi_len, List.map_append]
          exact acT.push
        · intro H4 ac
          rw [vi_len] at ac
          refine ⟨D2, _, rfl, SqL.of ac.a, by unfold mL; rw [List.length_map, List.length_range]; exact hpos, fun l hl hle => ⟨l, rfl, ⟨ac3.same ac.s, ac.s _ _ e5⟩, hl, hle⟩⟩
      rintro σ' H4 ⟨l, rfl, ⟨ac4, e54⟩, hl⟩
      have hsl : (subL bs.length w1 m).length ≤ 12 := by
        unfold subL
        have := List.length_filter_le (fun x => decide (m ∈ wayL w1 x)) (List.range bs.length)
        rw [List.length_range] at this
        exact Nat.le_trans this hn
      have hso : ∀ o ∈ subL bs.length w1 m, o < bs.length := fun o ho => (sub_mem.mp ho).1
      refine ⟨fun σ' H' => ∃ q7 : Addr, σ' = [some (.ref r), some (.int w1), some (.int bs.length), some (.ref D), some (.int (m : Nat)), some (.ref q5), some (.int l), some (.ref q7), x8, none, none, none] ∧ (AccQ H D ps H' ∧ H' q5 = some (.lst (vi (wayL w1 m)))) ∧ H' q7 = some (.lst (vi (subL bs.length w1 m))), ?_, ?_⟩
      · exact ⟨_, rfl, _, rfl, _, rfl, w1, bs.length, m, rfl, hw, hn, hm, fun H5 q7 s5 n5 e7 => ⟨q7, rfl, ⟨ac4.same s5, s5 _ _ e54⟩, e7⟩⟩
      rintro σ' H5 ⟨q7, rfl, ⟨ac5, e55⟩, e7⟩
      refine ⟨fun σ' H' => ∃ q8 : Addr, σ' = [some (.ref r), some (.int w1), some (.int bs.length), some (.ref D), some (.int (m : Nat)), some (.ref q5), some (.int l), some (.ref q7), some (.ref q8), none, none, none] ∧ (AccQ H D ps H' ∧ H' q7 = some (.lst (vi (subL bs.length w1 m)))) ∧ H' q8 = some (.lst (((subL bs.length w1 m).map fun o => (((wayL w1 o).length : Int) - (wayL w1 m).length)).map V.int)), ?_, ?_⟩
      · refine ⟨_, rfl, q7, rfl, ⟨_, SqL.of e7⟩, fun D2 nD2 => ?_⟩
        refine lc_it (walk_list (xs := vi (subL bs.length w1 m))) (fun j H' => Acc H5 D2 ((((subL bs.length w1 m).take j).map fun o => (((wayL w1 o).length : Int) - (wayL w1 m).length)).map V.int) H') (Acc.start nD2) (fun j H' _ ac => SqL.of (ac.s _ _ e7)) ?_ ?_
        · rintro j y Ho2 H6 hj ac ⟨rfl, hy⟩
          obtain ⟨hj2, rfl⟩ := viAt hy
          have hon := hso _ (List.getElem_mem hj2)
          refine ⟨rfl, iteT (B := Acc H5 D2 ((((subL bs.length w1 m).take (j + 1)).map fun o => (((wayL w1 o).length : Int) - (wayL w1 m).length)).map V.int) H6) ?_⟩
          rw [List.take_succ_eq_append_getElem hj2, List.map_append, List.map_append]
          generalize (subL bs.length w1 m)[j] = o at *
          refine ⟨_, rfl, _, rfl, w1, o, rfl, hw, by omega, fun H7 q9 s7 n7 e9 => ?_⟩
          have ac7 := ac.same s7
          refine ⟨q9, _, rfl, .inl (SqL.of e9), _, rfl, q5, _, rfl, .inl (SqL.of (ac7.s _ _ e55)), _, _, rfl, rfl, ?_⟩
          refine ⟨_, ac7.a, by rw [List.length_map, List.length_map, List.length_take, sizeLine_eq]; omega, ?_⟩
          rw [vi_len, vi_len]
          exact ac7.push
        · intro H6 ac
          rw [vi_len, List.take_length] at ac
          exact ⟨D2, rfl, ⟨ac5.same ac.s, ac.s _ _ e7⟩, ac.a⟩
      rintro σ' H6 ⟨q8, rfl, ⟨ac6, e76⟩, e8⟩
      obtain ⟨zs, ez, _⟩ := id ac6.a
      refine ⟨_, rfl, .inl ⟨rfl, _, SqL.of ez⟩, _, rfl, _, rfl, q7, _, rfl, .inl ⟨SqL.of e76, fun D2 nD2 => ?_⟩⟩
      refine lc_it (walk_enum (xs := vi (subL bs.length w1 m))) (fun j H' => Acc H6 D2 ((nL w1 bs m j).map V.int) H') (Acc.start nD2) (fun j H' _ ac => SqL.of (ac.s _ _ e76)) ?_ ?_
      · rintro j y H7o H7 hj ac ⟨T', x', x2, rfl, hT, rfl, ej, e2⟩
        cases ej
        obtain ⟨hj2, rfl⟩ := viAt e2
        have hon := hso _ (List.getElem_mem hj2)
        have hst : nL w1 bs m (j + 1) = nL w1 bs m j ++ [bB bs ((subL bs.length w1 m)[j]) - (((wayL w1 ((subL bs.length w1 m)[j])).length : Int) - (wayL w1 m).length)] := by
          unfold nL
          rw [List.take_succ_eq_append_getElem hj2, List.map_append]
          rfl
        have hnl : (nL w1 bs m j).length ≤ 12 := by
          unfold nL
          rw [List.length_map, List.length_take]
          omega
        have hat : atI (((subL bs.length w1 m).map fun o => (((wayL w1 o).length : Int) - (wayL w1 m).length)).map V.int) ((j : Nat) : Int) = some (V.int (((wayL w1 ((subL bs.length w1 m)[j])).length : Int) - (wayL w1 m).length)) := by
          unfold atI
          rw [ixN_nat (by rw [List.length_map, List.length_map]; exact hj2)]
          show (List.map V.int _)[j]? = _
          rw [List.getElem?_map, List.getElem?_map, List.getElem?_eq_getElem hj2]
          rfl
        rw [hst]
        generalize (subL bs.length w1 m)[j] = o at *
        have sT := Same.up (o := .tup [V.int (j : Nat), V.int (o : Nat)]) hT
        have acT := ac.same sT
        refine ⟨_, _, rfl, SqT.of upd_same, rfl, _, _, rfl, _, _, rfl, rfl, rfl, iteT (B := Acc H6 D2 ((nL w1 bs m j ++ [bB bs o - (((wayL w1 o).length : Int) - (wayL w1 m).length)]).map V.int) (upd H7o T' (.tup [V.int (j : Nat), V.int (o : Nat)]))) ?_⟩
        generalize upd H7o T' (.tup [V.int (j : Nat), V.int (o : Nat)]) = H8 at acT
        have s8 := ac6.s.trans acT.s
        obtain ⟨u, eu, ett⟩ := prs_at (hps.same s8) hon
        refine ⟨_, rfl, _, rfl, r, _, _, _, rfl, rfl, SqL.of (s8 _ _ er), eu, u, _, _, _, rfl, rfl, SqT.of ett, rfl, ?_⟩
        refine ⟨_, rfl, _, rfl, q8, _, _, _, rfl, rfl, SqL.of (acT.s _ _ e8), hat, _, _, rfl, rfl, ?_⟩
        refine ⟨_, acT.a, by rw [List.length_map, sizeLine_eq]; omega, ?_⟩
        rw [List.map_append]
        exact acT.push
      · intro H7 ac
        rw [vi_len] at ac
        have hpos : 0 < (nL w1 bs m (subL bs.length w1 m).length).length := by
          unfold nL
          rw [List.length_map, List.take_length]
          exact List.length_pos_of_mem (sub_mem.mpr ⟨hm, up_self w1 (by omega) m (by omega) hw.1⟩)
        refine ⟨D2, _, rfl, SqL.of ac.a, hpos, fun g hg hge => ?_⟩
        refine ⟨by show 2 ≤ sizeLine; decide, fun t nt => ?_⟩
        have st := Same.up (o := .tup [V.int l, V.int g]) nt
        have ac8 := (ac6.same ac.s).same st
        have ett : upd H7 t (.tup [V.int l, V.int g]) t = some (.tup [V.int l, V.int g]) := upd_same
        generalize upd H7 t (.tup [V.int l, V.int g]) = H8 at st ac8 ett
        obtain ⟨acc, a1, a2, a3⟩ := ac8.push (x := .ref t) (p := (l, g)) ⟨t, rfl, ett⟩ (by rw [hM.len, sizeLine_eq]; omega)
        exact ⟨D, _, _, rfl, rfl, a1, a2, _, _, _, _, _, _, rfl, a3, must_snoc hM hl ⟨hg, hge⟩⟩
    rintro σ' H2 ⟨x4, x5, x6, x7, x8, ps, rfl, ac2, hM⟩
    obtain ⟨ys, ey, hy⟩ := ac2.a
    exact ⟨_, rfl, q H2 D ys ps ac2.s ac2.n ey hy hM.len (must_told hw hn hM)⟩
theorem b_lmu (T : Tx K mg A) : L2.Binds K A.d__law_must ["bounds", "wide"] [] := T.F__law_must.binds fun _ _ _ _ _ _ us hl => match us, hl with | [_, _], _ => rfl

end
end Tw

set_option Elab.async false
set_option linter.all false
set_option maxRecDepth 100000
set_option maxHeartbeats 2000000
namespace Tw
open PySem PySem.Spec PyProof.Rows L2
section
variable {P : Program} {w : World} {K : PySem.W.Frag} {mg : Str → Option Value} {base : Heap} {A : Ad}
open LamX (ExtN Tabs TabS)
/-! the law's pairs: spTake ok_take b_take spLO ok_lo b_lo spLH2 HeapL keyAt rgI DrAt DrAt.same But But.of But.trans But.seq PrAt PrsAt PrsAt.same PrsAt.push walk_range key_at sizeLine_eq -/
structure DrP (K : PySem.W.Frag) (H0 : Hp) (d a q : Addr) (ns : List Int) (k : Nat) (bs : List (Int × Int)) (H : Hp) : Prop where
  b : But d H0 H
  dr : DrAt K H d a ns k
  n : H0 q = none
  d0 : ∃ k0, DrAt K H0 d a ns k0
  a : ∃ xs, H q = some (.lst xs) ∧ PrsAt H xs bs
theorem DrP.qd {K : PySem.W.Frag} {H0 H : Hp} {d a q : Addr} {ns : List Int} {k : Nat} {bs : List (Int × Int)} (h : DrP K H0 d a q ns k bs H) : q ≠ d := fun z => by
  obtain ⟨k0, d0⟩ := h.d0
  have := h.n
  rw [z, d0.l] at this
  cases this
theorem DrP.draw {K : PySem.W.Frag} {H0 H H' : Hp} {d a q : Addr} {ns : List Int} {k k' : Nat} {bs : List (Int × Int)} (h : DrP K H0 d a q ns k bs H) (b : But d H H') (dr : DrAt K H' d a ns k') : DrP K H0 d a q ns k' bs H' :=
  ⟨h.b.trans b, dr, h.n, h.d0, let ⟨xs, e, z⟩ := h.a; ⟨xs, b _ _ h.qd e, L2.Paired.mapP z fun _ _ ⟨t, q, y⟩ => ⟨t, q, b _ _ (ne_of y h.dr.l (by intro w; cases w)) y⟩⟩⟩
theorem DrP.same {K : PySem.W.Frag} {H0 H H' : Hp} {d a q : Addr} {ns : List Int} {k : Nat} {bs : List (Int × Int)} (h : DrP K H0 d a q ns k bs H) (s : Same H H') : DrP K H0 d a q ns k bs H' := h.draw (But.of s) (h.dr.same s)
theorem DrP.push {K : PySem.W.Frag} {H0 H : Hp} {d a q : Addr} {ns : List Int} {k : Nat} {bs : List (Int × Int)} {x : V} {p : Int × Int} (h : DrP K H0 d a q ns k bs H) (hx : PrAt H x p) (hl : bs.length < sizeLine) :
    ∃ acc, H q = some (.lst acc) ∧ acc.length < sizeLine ∧ DrP K H0 d a q ns k (bs ++ [p]) (upd H q (.lst (acc ++ [x]))) := by
  have hqd := h.qd
  obtain ⟨b, dr, n, ⟨k0, d0⟩, xs, e, z⟩ := h
  have bb : But d H0 (upd H q (.lst (xs ++ [x]))) := fun c o hc ec => by
    rw [upd_ne (ne_of_none ec n)]
    exact b c o hc ec
  exact ⟨xs, e, by rw [Paired.length z]; exact hl, bb, ⟨by rw [upd_ne hqd.symm]; exact dr.l, dr.n, bb.seq d0.s d0.n, dr.h⟩, n, ⟨k0, d0⟩, xs ++ [x], upd_same, prs_putD e (PrsAt.push hx z)⟩
/-- pairs within the ranks of many places -/
def InR (n : Nat) (bs : List (Int × Int)) : Prop := ∀ x ∈ bs, 0 ≤ x.1 ∧ x.1 ≤ x.2 ∧ x.2 ≤ (n : Int) - 1
theorem InR.ok {bs : List (Int × Int)} (h : InR bs.length bs) : BOk bs := fun p hp => by
  have := h _ (List.getElem_mem hp)
  unfold bA bB
  rw [List.getD_eq_getElem?_getD, List.getElem?_eq_getElem hp]
  exact this
theorem InR.snoc {n : Nat} {bs : List (Int × Int)} {x : Int × Int} (h : InR n bs) (hx : 0 ≤ x.1 ∧ x.1 ≤ x.2 ∧ x.2 ≤ (n : Int) - 1) : InR n (bs ++ [x]) := fun y hy => by
  rcases List.mem_append.mp hy with hy | hy
  · exact h y hy
  · rw [List.mem_singleton.mp hy]
    exact hx
def spLpr (K : PySem.W.Frag) : Sp := fun vs H Q _ => ∃ (d a : Addr) (ns : List Int) (k n : Nat), vs = [.ref d, .int n] ∧ DrAt K H d a ns k ∧ k < 40000 ∧ 1 ≤ n ∧ n ≤ 12 ∧
  ∀ (H' : Hp) (q : Addr) (xs : List V) (bs : List (Int × Int)), But d H H' → DrAt K H' d a ns (k + 3 * n) → H q = none → H' q = some (.lst xs) → PrsAt H' xs bs → bs.length = n → BOk bs → Q (.ref q) H'
theorem ok_lpr (T : Tx K mg A) : FnOk P w K mg base CX0 4 A.f__law_pairs A.d__law_pairs ["draw", "many"] (spLpr K) := by
  refine T.F__law_pairs.ok sc__law_pairs (fun vs H Q E h => ?_) (fun cdv B outer s H vs Q E hr h => ?_)
  · obtain ⟨d, a, ns, k, n, rfl, _⟩ := h
    rfl
  · obtain ⟨d, a, ns, k, n, rfl, dr, hk, hn1, hn, q⟩ := h
    have nd := sc__law_pairs.nd
    refine ⟨_, PSs.nox (pss_cons (ps_set (i := 2) nd rfl (Or.inl rfl) (pe_lst pa_nil))
      (C8.pss_cut (ps_for PassesOwn.never rfl (pi_range1 rfl T.g_range (pa_cons (pv 1) pa_nil)) (pg_name (i := 3) nd rfl (Or.inl rfl)) (C8.pss_cut (ps_par (i := 4) (j := 5) rfl nd rfl rfl (by decide) rfl rfl (pa_cons (pe_call (ok_take T) (hr.mono (by decide)) (by rfl) T.m__law_take T.F__law_take.kp (b_take T) .nil pass0 (pa_cons (pv 0) (pa_cons (pv 1) pa_nil))) (pa_cons (pe_call (ok_take T) (hr.mono (by decide)) (by rfl) T.m__law_take T.F__law_take.kp (b_take T) .nil pass0 (pa_cons (pv 0) (pa_cons (pv 1) pa_nil))) pa_nil)) rfl)
      (C8.pss_cut (ps_set (i := 6) nd rfl (Or.inl rfl) (pe_call (ok_take T) (hr.mono (by decide)) (by rfl) T.m__law_take T.F__law_take.kp (b_take T) .nil pass0 (pa_cons (pv 0) (pa_cons pe_int pa_nil))))
      (C8.pss_cut (ps_if (pt_cmpR op_eq (pv 6) pe_int (nomark _)) (pss_one (ps_par (i := 4) (j := 5) rfl nd rfl rfl (by decide) rfl rfl (pa_cons pe_int (pa_cons (pe_op op_sub (pv 1) pe_int) pa_nil)) rfl)) pss_nil)
      (C8.pss_cut (ps_if (pt_cmpR op_eq (pv 6) pe_int (nomark _)) (pss_one (ps_set (i := 5) nd rfl (Or.inl rfl) (pv 4))) pss_nil)
      (pss_one (ps_expr (pe_bm PySem.F.plainAttrs_list PySem.F.slot_list_append PySem.F.type_list_append mt_append (pv 2) (pa_cons (pe_tup (pa_cons (pe_callB (call_min2 rfl) (by rfl) T.g_min (by decide +kernel) (pa_cons (pv 4) (pa_cons (pv 5) pa_nil))) (pa_cons (pe_callB (call_max2 rfl) (by rfl) T.g_max (by decide +kernel) (pa_cons (pv 4) (pa_cons (pv 5) pa_nil))) pa_nil))) pa_nil)))))))))
      (pss_one (ps_ret (pv 2))))), ?_⟩
    refine ⟨by show 0 ≤ sizeLine; decide, fun D nD => ?_⟩
    have p0 : DrP K H d a D ns k [] (upd H D (.lst [])) := ⟨But.of (Same.up nD), dr.same (Same.up nD), nD, ⟨k, dr⟩, [], upd_same, .nil⟩
    generalize upd H D (.lst []) = H1 at p0
    refine ⟨fun σ' H' => ∃ (x3 x4 x5 x6 : Option V) (bs : List (Int × Int)), σ' = [some (.ref d), some (.int n), some (.ref D), x3, x4, x5, x6] ∧ DrP K H d a D ns (k + 3 * n) bs H' ∧ bs.length = n ∧ InR n bs, ?_, ?_⟩
    · refine ⟨_, rfl, _, rfl, by omega, by omega, ?_⟩
      refine for_it (walk_range (lo := 0) (n := n)) (fun i σ' H' => ∃ (x3 x4 x5 x6 : Option V) (bs : List (Int × Int)), σ' = [some (.ref d), some (.int n), some (.ref D), x3, x4, x5, x6] ∧ DrP K H d a D ns (k + 3 * i) bs H' ∧ bs.length = i ∧ InR n bs)
        ⟨none, none, none, none, [], rfl, p0, rfl, fun x hx => (nomatch hx)⟩ (fun _ _ _ _ _ => trivial) ?_ (fun σ' H' h => h)
      rintro i y σ' Ho H2 hi ⟨x3, x4, x5, x6, bs, rfl, p2, hbl, hin⟩ ⟨rfl, ey⟩
      obtain rfl : y = V.int (i : Nat) := ey.trans (by show V.int (0 + (i : Int)) = _; rw [Int.zero_add])
      refine ⟨fun σ' H' => ∃ f l : Nat, σ' = [some (.ref d), some (.int n), some (.ref D), some (.int (i : Nat)), some (.int (f : Nat)), some (.int (l : Nat)), x6] ∧ DrP K H d a D ns (k + 3 * i + 1 + 1) bs H' ∧ f < n ∧ l < n, ?_, ?_⟩
      · refine ⟨_, rfl, _, rfl, d, a, ns, k + 3 * i, n, rfl, p2.dr, by omega, by omega, fun H3 f b3 dr3 hf => ?_⟩
        have p3 := p2.draw b3 dr3
        refine ⟨_, rfl, _, rfl, d, a, ns, k + 3 * i + 1, n, rfl, p3.dr, by omega, by omega, fun H4 l b4 dr4 hl => ?_⟩
        exact ⟨_, _, rfl, f, l, rfl, p3.draw b4 dr4, hf, hl⟩
      rintro σ' H4 ⟨f, l, rfl, p4, hf, hl⟩
      refine ⟨fun σ' H' => ∃ r : Nat, σ' = [some (.ref d), some (.int n), some (.ref D), some (.int (i : Nat)), some (.int (f : Nat)), some (.int (l : Nat)), some (.int (r : Nat))] ∧ DrP K H d a D ns (k + 3 * i + 1 + 1 + 1) bs H', ?_, ?_⟩
      · exact ⟨_, rfl, d, a, ns, k + 3 * i + 1 + 1, 3, rfl, p4.dr, by omega, by omega, fun H5 r b5 dr5 hr5 => ⟨r, rfl, p4.draw b5 dr5⟩⟩
      rintro σ' H5 ⟨r, rfl, p5⟩
      refine ⟨fun σ' H' => ∃ f l : Int, σ' = [some (.ref d), some (.int n), some (.ref D), some (.int (i : Nat)), some (.int f), some (.int l), some (.int (r : Nat))] ∧ DrP K H d a D ns (k + 3 * i + 1 + 1 + 1) bs H' ∧ (0 ≤ f ∧ f ≤ (n : Int) - 1) ∧ (0 ≤ l ∧ l ≤ (n : Int) - 1), ?_, ?_⟩
      · refine ⟨_, rfl, rfl, _, rfl, ite2 (fun _ => ?_) (fun _ => ?_)⟩
        · exact ⟨_, rfl, _, _, rfl, rfl, _, _, rfl, _, _, rfl, p5, by omega, by omega⟩
        · exact ⟨_, _, rfl, p5, by omega, by omega⟩
      rintro σ' H6 ⟨f1, l1, rfl, p6, hf1, hl1⟩
      refine ⟨fun σ' H' => ∃ f l : Int, σ' = [some (.ref d), some (.int n), some (.ref D), some (.int (i : Nat)), some (.int f), some (.int l), some (.int (r : Nat))] ∧ DrP K H d a D ns (k + 3 * i + 1 + 1 + 1) bs H' ∧ (0 ≤ f ∧ f ≤ (n : Int) - 1) ∧ (0 ≤ l ∧ l ≤ (n : Int) - 1), ?_, ?_⟩
      · refine ⟨_, rfl, rfl, _, rfl, ite2 (fun _ => ?_) (fun _ => ?_)⟩
        · exact ⟨_, rfl, _, _, rfl, p6, hf1, hf1⟩
        · exact ⟨_, _, rfl, p6, hf1, hl1⟩
      rintro σ' H7 ⟨f2, l2, rfl, p7, hf2, hl2⟩
      obtain ⟨zs, ez, _⟩ := id p7.a
      refine ⟨_, rfl, .inl ⟨rfl, _, SqL.of ez⟩, _, rfl, _, rfl, _, _, rfl, _, rfl, _, rfl, _, _, rfl, ?_⟩
      generalize hmn : (if l2 < f2 then l2 else f2) = mn
      generalize hmx : (if l2 > f2 then l2 else f2) = mx
      have hmm : 0 ≤ mn ∧ mn ≤ mx ∧ mx ≤ (n : Int) - 1 := by
        rw [← hmn, ← hmx]
        split <;> split <;> omega
      refine ⟨by show 2 ≤ sizeLine; decide, fun t nt => ?_⟩
      have st := Same.up (o := .tup [V.int mn, V.int mx]) nt
      have p8 := p7.same st
      have ett : upd H7 t (.tup [V.int mn, V.int mx]) t = some (.tup [V.int mn, V.int mx]) := upd_same
      generalize upd H7 t (.tup [V.int mn, V.int mx]) = H8 at st p8 ett
      obtain ⟨acc, a1, a2, a3⟩ := p8.push (x := .ref t) (p := (mn, mx)) ⟨t, rfl, ett⟩ (by rw [sizeLine_eq]; omega)
      exact ⟨D, _, _, rfl, rfl, a1, a2, _, _, _, _, _, rfl, by rw [show k + 3 * (i + 1) = k + 3 * i + 1 + 1 + 1 by omega]; exact a3, by rw [List.length_append, hbl]; rfl, hin.snoc hmm⟩
    rintro σ' H2 ⟨x3, x4, x5, x6, bs, rfl, p2, hbl, hin⟩
    obtain ⟨ys, ey, hy⟩ := p2.a
    subst hbl
    exact ⟨_, rfl, q H2 D ys bs p2.b p2.dr p2.n ey hy rfl hin.ok⟩
theorem b_lpr (T : Tx K mg A) : L2.Binds K A.d__law_pairs ["draw", "many"] [] := T.F__law_pairs.binds fun _ _ _ _ _ _ us hl => match us, hl with | [_, _], _ => rfl
theorem rgI_mem {n : Nat} {x : Int} : x ∈ rgI n ↔ 0 ≤ x ∧ x ≤ (n : Int) - 1 := by
  unfold rgI
  rw [List.mem_map]
  constructor
  · rintro ⟨i, hi, rfl⟩
    have := List.mem_range.mp hi
    omega
  · rintro ⟨h1, h2⟩
    exact ⟨x.toNat, List.mem_range.mpr (by omega), by omega⟩
theorem rgI_nodup (n : Nat) : (rgI n).Nodup := by
  unfold rgI
  exact List.pairwise_map.mpr (List.nodup_range.imp fun {x y} (h : x ≠ y) e => h (Int.ofNat.inj e))
theorem near_fits {n w : Nat} {bs : List (Int × Int)} {ms : List Int} (hb : bs.length = n) (hp : ms.Perm (rgI n)) (hh : HeapL ms.length w ms) (hi : ∀ p, p < n → bA bs p ≤ keyAt ms p ∧ keyAt ms p ≤ bB bs p) : Fits w bs := by
  have hl : ms.length = n := by
    rw [hp.length_eq]
    unfold rgI
    rw [List.length_map, List.length_range]
  have hm : ∀ p, p < n → 0 ≤ keyAt ms p ∧ keyAt ms p ≤ (n : Int) - 1 := fun p h => rgI_mem.mp (hp.mem_iff.mp (keyAt_mem (by omega)))
  have hnd : ms.Nodup := hp.nodup_iff.mpr (rgI_nodup n)
  have hin : ∀ p q, p < n → q < n → keyAt ms p = keyAt ms q → p = q := fun p q h1 h2 e => by
    have k : ∀ p, (h : p < n) → keyAt ms p = ms[p]'(by omega) := fun p h => by
      unfold keyAt
      rw [List.getD_eq_getElem?_getD, List.getElem?_eq_getElem (by omega)]
      rfl
    rw [k p h1, k q h2] at e
    exact (List.getElem_inj hnd).mp e
  refine ⟨fun p => (keyAt ms p).toNat, fun p h => ?_, fun p q h1 h2 e => ?_, fun c c0 cn => ?_, fun p h => ?_⟩
  · have := hm p (by omega)
    show (keyAt ms p).toNat < _
    omega
  · have e : (keyAt ms p).toNat = (keyAt ms q).toNat := e
    have := hm p (by omega)
    have := hm q (by omega)
    exact hin p q (by omega) (by omega) (by omega)
  · have hlt := par_ltB (w := w) c0
    have h1 := hh c c0 (by omega)
    have h2 := hm c (by omega)
    have h3 := hm ((c - 1) / w) (by omega)
    show (keyAt ms ((c - 1) / w)).toNat < (keyAt ms c).toNat
    by_cases e : keyAt ms ((c - 1) / w) = keyAt ms c
    · have := hin _ _ (by omega) (by omega) e
      omega
    · omega
  · have h1 := hm p (by omega)
    have h2 := hi p (by omega)
    show bA bs p ≤ ((keyAt ms p).toNat : Int) ∧ ((keyAt ms p).toNat : Int) ≤ bB bs p
    omega
def NearI (ms : List Int) (bs : List (Int × Int)) : Prop := ∀ p, p < bs.length → bA bs p ≤ keyAt ms p ∧ keyAt ms p ≤ bB bs p
theorem NearI.snoc {ms : List Int} {bs : List (Int × Int)} {x : Int × Int} (h : NearI ms bs) (hx : x.1 ≤ keyAt ms bs.length ∧ keyAt ms bs.length ≤ x.2) : NearI ms (bs ++ [x]) := fun p hp => by
  rw [List.length_append] at hp
  unfold bA bB
  by_cases e : p < bs.length
  · rw [List.getD_eq_getElem?_getD, List.getElem?_append_left e, ← List.getD_eq_getElem?_getD]
    exact h p e
  · have hp : p < bs.length + 1 := hp
    have : p = bs.length := by omega
    subst this
    rw [List.getD_eq_getElem?_getD, List.getElem?_append_right (Nat.le_refl _), Nat.sub_self]
    exact hx
def spLnp (K : PySem.W.Frag) : Sp := fun vs H Q _ => ∃ (d a : Addr) (ns : List Int) (k w n : Nat), vs = [.ref d, .int w, .int n] ∧ DrAt K H d a ns k ∧ k < 40000 ∧ (1 ≤ w ∧ w ≤ 4) ∧ 1 ≤ n ∧ n ≤ 12 ∧
  ∀ (H' : Hp) (q : Addr) (xs : List V) (bs : List (Int × Int)) (k' : Nat), But d H H' → DrAt K H' d a ns k' → k' ≤ k + 12 + 2 * n → H q = none → H' q = some (.lst xs) → PrsAt H' xs bs → bs.length = n → BOk bs → Fits w bs → Q (.ref q) H'
theorem ok_lnp (T : Tx K mg A) : FnOk P w K mg base CX0 5 A.f__law_near_pairs A.d__law_near_pairs ["draw", "wide", "many"] (spLnp K) := by
  refine T.F__law_near_pairs.ok sc__law_near_pairs (fun vs H Q E h => ?_) (fun cdv B outer s H vs Q E hr h => ?_)
  · obtain ⟨d, a, ns, k, w, n, rfl, _⟩ := h
    rfl
  · obtain ⟨d, a, ns, k, w1, n, rfl, dr, hk, hw, hn1, hn, q⟩ := h
    have nd := sc__law_near_pairs.nd
    refine ⟨_, PSs.nox (C8.pss_cut (ps_par (i := 3) (j := 4) rfl nd rfl rfl (by decide) rfl rfl (pa_cons (pe_call (ok_lh T) (hr.mono (by decide)) (by rfl) T.m__law_heap T.F__law_heap.kp (b_lh T) .nil pass0 (pa_cons (pe_call (ok_lo T) (hr.mono (by decide)) (by rfl) T.m__law_order T.F__law_order.kp (b_lo T) .nil pass0 (pa_cons (pv 0) (pa_cons (pv 2) pa_nil))) (pa_cons (pv 1) pa_nil))) (pa_cons (pe_lst pa_nil) pa_nil)) rfl)
      (C8.pss_cut (ps_for PassesOwn.never rfl (pi_range1 rfl T.g_range (pa_cons (pv 2) pa_nil)) (pg_name (i := 5) nd rfl (Or.inl rfl)) (C8.pss_cut (ps_par (i := 6) (j := 7) rfl nd rfl rfl (by decide) rfl rfl (pa_cons (pe_call (ok_take T) (hr.mono (by decide)) (by rfl) T.m__law_take T.F__law_take.kp (b_take T) .nil pass0 (pa_cons (pv 0) (pa_cons pe_int pa_nil))) (pa_cons (pe_call (ok_take T) (hr.mono (by decide)) (by rfl) T.m__law_take T.F__law_take.kp (b_take T) .nil pass0 (pa_cons (pv 0) (pa_cons pe_int pa_nil))) pa_nil)) rfl)
      (pss_one (ps_expr (pe_bm PySem.F.plainAttrs_list PySem.F.slot_list_append PySem.F.type_list_append mt_append (pv 4) (pa_cons (pe_tup (pa_cons (pe_callB (call_max2 rfl) (by rfl) T.g_max (by decide +kernel) (pa_cons pe_int (pa_cons (pe_op op_sub (pe_ix (r := rIxL K) ix_list (pv 3) (pv 5) (fun _ _ => rfl)) (pv 6)) pa_nil))) (pa_cons (pe_callB (call_min2 rfl) (by rfl) T.g_min (by decide +kernel) (pa_cons (pe_op op_sub (pv 2) pe_int) (pa_cons (pe_op op_add (pe_ix (r := rIxL K) ix_list (pv 3) (pv 5) (fun _ _ => rfl)) (pv 7)) pa_nil))) pa_nil))) pa_nil))))))
      (pss_one (ps_ret (pv 4))))), ?_⟩
    refine ⟨fun σ' H' => ∃ (q3 D : Addr) (ms : List Int) (k1 : Nat), σ' = [some (.ref d), some (.int w1), some (.int n), some (.ref q3), some (.ref D), none, none, none] ∧ (DrP K H d a D ns k1 [] H' ∧ H' q3 = some (.lst (ms.map V.int)) ∧ H q3 = none ∧ q3 ≠ D) ∧ k1 ≤ k + 12 ∧ ms.Perm (rgI n) ∧ HeapL ms.length w1 ms, ?_, ?_⟩
    · refine ⟨_, rfl, _, rfl, d, a, ns, k, n, rfl, dr, by omega, hn, fun H1 q1 os k1 b1 dr1 hk1 perm nq eq => ?_⟩
      have hol : os.length ≤ 12 := by
        rw [perm.length_eq]
        unfold rgI
        rw [List.length_map, List.length_range]
        exact hn
      refine ⟨_, rfl, q1, w1, os, rfl, hw, eq, hol, fun H2 q3 ms s2 hh perm2 n3 e3 => ?_⟩
      have n3H : H q3 = none := by
        cases e : H q3 with
        | none => rfl
        | some o =>
          by_cases z : q3 = d
          · rw [z, dr1.l] at n3
            cases n3
          · rw [b1 _ _ z e] at n3
            cases n3
      refine ⟨by show 0 ≤ sizeLine; decide, fun D nD => ?_⟩
      have b2 : But d H (upd H2 D (.lst [])) := (b1.trans (But.of s2)).trans (But.of (Same.up nD))
      have nDH : H D = none := by
        cases e : H D with
        | none => rfl
        | some o =>
          by_cases z : D = d
          · rw [z, (dr1.same s2).l] at nD
            cases nD
          · rw [s2 _ _ (b1 _ _ z e)] at nD
            cases nD
      exact ⟨_, _, rfl, q3, D, ms, k1, rfl, ⟨⟨b2, (dr1.same s2).same (Same.up nD), nDH, ⟨k, dr⟩, [], upd_same, .nil⟩, (Same.up nD) _ _ e3, n3H, fun z => by rw [z, nD] at e3; cases e3⟩, hk1, perm2.trans perm, hh⟩
    rintro σ' H2 ⟨q3, D, ms, k1, rfl, ⟨p2, e3, n3, h3D⟩, hk1, hpm, hhp⟩
    have h3d : q3 ≠ d := fun z => by rw [z, dr.l] at n3; cases n3
    have hml : ms.length = n := by
      rw [hpm.length_eq]
      unfold rgI
      rw [List.length_map, List.length_range]
    refine ⟨fun σ' H' => ∃ (x5 x6 x7 : Option V) (bs : List (Int × Int)), σ' = [some (.ref d), some (.int w1), some (.int n), some (.ref q3), some (.ref D), x5, x6, x7] ∧ (DrP K H d a D ns (k1 + 2 * n) bs H' ∧ H' q3 = some (.lst (ms.map V.int))) ∧ bs.length = n ∧ InR n bs ∧ NearI ms bs, ?_, ?_⟩
    · refine ⟨_, rfl, _, rfl, by omega, by omega, ?_⟩
      refine for_it (walk_range (lo := 0) (n := n)) (fun i σ' H' => ∃ (x5 x6 x7 : Option V) (bs : List (Int × Int)), σ' = [some (.ref d), some (.int w1), some (.int n), some (.ref q3), some (.ref D), x5, x6, x7] ∧ (DrP K H d a D ns (k1 + 2 * i) bs H' ∧ H' q3 = some (.lst (ms.map V.int))) ∧ bs.length = i ∧ InR n bs ∧ NearI ms bs)
        ⟨none, none, none, [], rfl, ⟨p2, e3⟩, rfl, fun x hx => (nomatch hx), fun p hp => absurd hp (Nat.not_lt_zero p)⟩ (fun _ _ _ _ _ => trivial) ?_ (fun σ' H' h => h)
      rintro i y σ' Ho H3 hi ⟨x5, x6, x7, bs, rfl, ⟨p3, e33⟩, hbl, hin, hnr⟩ ⟨rfl, ey⟩
      obtain rfl : y = V.int (i : Nat) := ey.trans (by show V.int (0 + (i : Int)) = _; rw [Int.zero_add])
      refine ⟨fun σ' H' => ∃ f l : Nat, σ' = [some (.ref d), some (.int w1), some (.int n), some (.ref q3), some (.ref D), some (.int (i : Nat)), some (.int (f : Nat)), some (.int (l : Nat))] ∧ (DrP K H d a D ns (k1 + 2 * i + 1 + 1) bs H' ∧ H' q3 = some (.lst (ms.map V.int))), ?_, ?_⟩
      · refine ⟨_, rfl, d, a, ns, k1 + 2 * i, 3, rfl, p3.dr, by omega, by omega, fun H4 f b4 dr4 hf => ?_⟩
        have p4 := p3.draw b4 dr4
        refine ⟨_, rfl, d, a, ns, k1 + 2 * i + 1, 3, rfl, p4.dr, by omega, by omega, fun H5 l b5 dr5 hl => ?_⟩
        exact ⟨_, _, rfl, f, l, rfl, p4.draw b5 dr5, b5 _ _ h3d (b4 _ _ h3d e33)⟩
      rintro σ' H4 ⟨f, l, rfl, p4, e34⟩
      obtain ⟨zs, ez, _⟩ := id p4.a
      have hkr := rgI_mem.mp (hpm.mem_iff.mp (keyAt_mem (ks := ms) (p := i) (by omega)))
      have hkk := key_at (ks := ms) (p := i) (by omega)
      refine ⟨_, rfl, .inl ⟨rfl, _, SqL.of ez⟩, _, rfl, _, rfl, q3, _, _, _, rfl, rfl, SqL.of e34, hkk, _, rfl, _, _, rfl, rfl, _, _, rfl, ?_⟩
      refine ⟨_, rfl, _, _, rfl, rfl, _, rfl, _, rfl, q3, _, _, _, rfl, rfl, SqL.of e34, hkk, _, rfl, _, _, rfl, rfl, _, _, rfl, ?_⟩
      generalize hmx : (if keyAt ms i - (f : Int) > 0 then keyAt ms i - (f : Int) else 0) = mx
      generalize hmn : (if keyAt ms i + (l : Int) < (n : Int) - 1 then keyAt ms i + (l : Int) else (n : Int) - 1) = mn
      have hmm : 0 ≤ mx ∧ mx ≤ keyAt ms i ∧ keyAt ms i ≤ mn ∧ mn ≤ (n : Int) - 1 := by
        rw [← hmn, ← hmx]
        split <;> split <;> omega
      refine ⟨by show 2 ≤ sizeLine; decide, fun t nt => ?_⟩
      have st := Same.up (o := .tup [V.int mx, V.int mn]) nt
      have p8 := p4.same st
      have ett : upd H4 t (.tup [V.int mx, V.int mn]) t = some (.tup [V.int mx, V.int mn]) := upd_same
      have e38 := st _ _ e34
      generalize upd H4 t (.tup [V.int mx, V.int mn]) = H8 at st p8 ett e38
      obtain ⟨acc, a1, a2, a3⟩ := p8.push (x := .ref t) (p := (mx, mn)) ⟨t, rfl, ett⟩ (by rw [sizeLine_eq]; omega)
      subst hbl
      exact ⟨D, _, _, rfl, rfl, a1, a2, _, _, _, _, rfl, ⟨by rw [show k1 + 2 * (bs.length + 1) = k1 + 2 * bs.length + 1 + 1 by omega]; exact a3, by rw [upd_ne h3D]; exact e38⟩, by rw [List.length_append]; rfl, hin.snoc ⟨hmm.1, by omega, hmm.2.2.2⟩, hnr.snoc ⟨hmm.2.1, hmm.2.2.1⟩⟩
    rintro σ' H3 ⟨x5, x6, x7, bs, rfl, ⟨p3, e33⟩, hbl, hin, hnr⟩
    obtain ⟨ys, ey, hy⟩ := p3.a
    subst hbl
    exact ⟨_, rfl, q H3 D ys bs _ p3.b p3.dr (by omega) p3.n ey hy rfl hin.ok (near_fits rfl hpm hhp hnr)⟩
theorem b_lnp (T : Tx K mg A) : L2.Binds K A.d__law_near_pairs ["draw", "wide", "many"] [] := T.F__law_near_pairs.binds fun _ _ _ _ _ _ us hl => match us, hl with | [_, _, _], _ => rfl

end
end Tw

set_option Elab.async false
set_option linter.all false
set_option maxRecDepth 100000
set_option maxHeartbeats 2000000
namespace Tw
open PySem PySem.Spec PyProof.Rows L2
section
variable {P : Program} {w : World} {K : PySem.W.Frag} {mg : Str → Option Value} {base : Heap} {A : Ad}
open LamX (ExtN Tabs TabS)
theorem DrAt.ext {K : PySem.W.Frag} {H H' : Hp} {d a : Addr} {ns : List Int} {k : Nat} (h : DrAt K H d a ns k) (e : ExtN H H') : DrAt K H' d a ns k := ⟨e _ _ h.l (fun ps z => nomatch z), h.n, e.sqL h.s, h.h⟩
theorem b_arm (T : Tx K mg A) : L2.Binds K A.d__law_arms ["draw"] [] := T.F__law_arms.binds fun _ _ _ _ _ _ us hl => match us, hl with | [_], _ => rfl
theorem b_lis (T : Tx K mg A) : L2.Binds K A.d__law_is_heap ["row", "wide"] [] := T.F__law_is_heap.binds fun _ _ _ _ _ _ us hl => match us, hl with | [_, _], _ => rfl
theorem cut_from (xs : List V) (k : Nat) : cutV xs (some (k : Int)) none = xs.drop k := by
  unfold cutV
  rw [HT.sIx_none, HT.sIx_nat]
  rcases Nat.le_total k xs.length with h | h
  · rw [Nat.min_eq_left h, List.take_of_length_le (by rw [List.length_drop]; exact Nat.le_refl _)]
  · rw [Nat.min_eq_right h, List.drop_length, List.drop_eq_nil_of_le h, List.take_nil]
theorem cut_to (xs : List V) (k : Nat) : cutV xs none (some (k : Int)) = xs.take k := by
  unfold cutV
  rw [HT.sIx_none, HT.sIx_nat, List.drop_zero, Nat.sub_zero]
  rcases Nat.le_total k xs.length with h | h
  · rw [Nat.min_eq_left h]
  · rw [Nat.min_eq_right h, List.take_length, List.take_of_length_le h]
theorem inV_int (i : Int) : ∀ ns : List Int, inV (V.int i) (ns.map V.int) = decide (i ∈ ns)
  | [] => by simp [inV]
  | a :: ns => by
    have ih := inV_int i ns
    unfold inV at ih ⊢
    show (eqV (V.int a) (V.int i) || (ns.map V.int).any fun y => eqV y (V.int i)) = _
    rw [ih]
    by_cases h : i = a
    · subst h
      rw [show eqV (V.int i) (V.int i) = true from decide_eq_true rfl, Bool.true_or, decide_eq_true List.mem_cons_self]
    · rw [show eqV (V.int a) (V.int i) = false from decide_eq_false (fun z => h (by have : a = i := z; exact this.symm)), Bool.false_or]
      exact decide_eq_decide.mpr ⟨fun z => List.mem_cons_of_mem _ z, fun z => (List.mem_cons.mp z).resolve_left h⟩
theorem int_flat : ∀ ks : List Int, (ks.map V.int).all flatV = true
  | [] => rfl
  | k :: ks => by
    rw [List.map_cons, List.all_cons, int_flat ks]
    rfl
theorem ints_all : ∀ ks ms : List Int, PyData.eqvAll (ks.map PyData.int) (ms.map PyData.int) = decide (ks = ms)
  | [], [] => by simp [PyData.eqvAll]
  | [], m :: ms => by simp [PyData.eqvAll]
  | k :: ks, [] => by simp [PyData.eqvAll]
  | k :: ks, m :: ms => by
    simp only [List.map_cons, PyData.eqvAll, ints_all ks ms, PyData.eqv]
    by_cases h1 : k = m
    · by_cases h2 : ks = ms <;> simp [h1, h2]
    · simp [h1]
theorem ints_eqvL (a b : List Int) : PyData.eqv (.list (a.map PyData.int)) (.list (b.map PyData.int)) = decide (a = b) := by
  rw [← ints_all]
  simp [PyData.eqv]
def spPick (K : PySem.W.Frag) : Sp := fun vs H Q _ => ∃ (d a b : Addr) (ns zs : List Int) (k : Nat), vs = [.ref d, .ref b] ∧ DrAt K H d a ns k ∧ k < 50000 ∧ H b = some (.lst (zs.map V.int)) ∧ b ≠ d ∧ 0 < zs.length ∧
  ∀ (H' : Hp) (z : Int), But d H H' → DrAt K H' d a ns (k + 1) → z ∈ zs → Q (.int z) H'
theorem ok_pick (T : Tx K mg A) : FnOk P w K mg base CX0 4 A.f__law_pick A.d__law_pick ["draw", "things"] (spPick K) := by
  refine T.F__law_pick.ok sc__law_pick (fun vs H Q E h => ?_) (fun cdv B outer s H vs Q E hr h => ?_)
  · obtain ⟨d, a, b, ns, zs, k, rfl, _⟩ := h
    rfl
  · obtain ⟨d, a, b, ns, zs, k, rfl, dr, hk, hb, hbd, hz, q⟩ := h
    refine ⟨_, pss_one (ps_ret (pe_ix ix_list (pv 1) (pe_call (ok_take T) hr (by rfl) T.m__law_take T.F__law_take.kp (b_take T) .nil pass0 (pa_cons (pv 0) (pa_cons (pe_callB call_len_seq (by rfl) T.g_len PySem.boot_len (pa_cons (pv 1) pa_nil)) pa_nil))) (fun _ _ => rfl))), ?_⟩
    refine ⟨_, rfl, _, rfl, _, rfl, b, _, rfl, .inl (SqL.of hb), d, a, ns, k, (zs.map V.int).length, rfl, dr, by omega, by rw [List.length_map]; exact hz, fun H1 r b1 dr1 hr1 => ?_⟩
    rw [List.length_map] at hr1
    have e : (zs.map V.int)[r]? = some (V.int zs[r]) := by rw [List.getElem?_map, List.getElem?_eq_getElem hr1]; rfl
    exact ⟨b, _, _, _, rfl, rfl, SqL.of (b1 _ _ hbd hb), atI_nat e, q H1 _ b1 dr1 (List.getElem_mem hr1)⟩
theorem b_pick (T : Tx K mg A) : L2.Binds K A.d__law_pick ["draw", "things"] [] := T.F__law_pick.binds fun _ _ _ _ _ _ us hl => match us, hl with | [_, _], _ => rfl
def spArm (K : PySem.W.Frag) : Sp := fun vs H Q _ => ∃ (d a : Addr) (ns : List Int) (k : Nat), vs = [.ref d] ∧ DrAt K H d a ns k ∧ k < 50000 ∧
  ∀ (H' : Hp) (w : Nat), But d H H' → DrAt K H' d a ns (k + 1) → (1 ≤ w ∧ w ≤ 4) → Q (.int w) H'
theorem ok_arm (T : Tx K mg A) : FnOk P w K mg base CX0 5 A.f__law_arms A.d__law_arms ["draw"] (spArm K) := by
  refine T.F__law_arms.ok sc__law_arms (fun vs H Q E h => ?_) (fun cdv B outer s H vs Q E hr h => ?_)
  · obtain ⟨d, a, ns, k, rfl, _⟩ := h
    rfl
  · obtain ⟨d, a, ns, k, rfl, dr, hk, q⟩ := h
    refine ⟨_, pss_one (ps_ret (pe_call (ok_pick T) hr (by rfl) T.m__law_pick T.F__law_pick.kp (b_pick T) .nil pass0 (pa_cons (pv 0) (pa_cons (pe_lst (pa_cons pe_int (pa_cons pe_int (pa_cons pe_int (pa_cons pe_int (pa_cons pe_int (pa_cons pe_int pa_nil))))))) pa_nil)))), ?_⟩
    refine ⟨_, rfl, by show 6 ≤ sizeLine; decide, fun b hb => ?_⟩
    have hbd : b ≠ d := fun z => by rw [z, dr.l] at hb; cases hb
    refine ⟨d, a, b, ns, [2, 2, 2, 3, 1, 4], k, rfl, dr.same (Same.up hb), hk, upd_same, hbd, by decide, fun H1 z b1 dr1 hz => ?_⟩
    have h4 : 1 ≤ z ∧ z ≤ 4 := by
      simp only [List.mem_cons, List.not_mem_nil, or_false] at hz
      omega
    obtain ⟨w, rfl⟩ : ∃ w : Nat, z = (w : Int) := ⟨z.toNat, by omega⟩
    exact q H1 w ((But.of (Same.up hb)).trans b1) dr1 ⟨by omega, by omega⟩
theorem way_le : ∀ w, w < 5 → ∀ p, p < 13 → 1 ≤ w → ∀ q ∈ wayL w p, q ≤ p := by decide +kernel
def spLIs : Sp := fun vs H Q _ => ∃ (a w : Nat) (ns : List Int), vs = [.ref a, .int w] ∧ (1 ≤ w ∧ w ≤ 4) ∧ RowIn H a ns ∧ ∀ H', Same H H' → Q (.bl (lheap ns w)) H'
theorem ok_lis (T : Tx K mg A) : FnOk P w K mg base CX0 4 A.f__law_is_heap A.d__law_is_heap ["row", "wide"] spLIs := by
  refine T.F__law_is_heap.ok sc__law_is_heap (fun vs H Q E h => ?_) (fun cdv B outer s H vs Q E hr h => ?_)
  · obtain ⟨a, w, ns, rfl, _⟩ := h
    rfl
  · obtain ⟨a, w, ns, rfl, hw, hrow, q⟩ := h
    have nd := sc__law_is_heap.nd
    have hlen := hrow.2.1
    refine ⟨_, pss_cons (ps_for PassesOwn.never rfl (pi_range1 rfl T.g_range (pa_cons (pe_callB call_len_seq (by rfl) T.g_len PySem.boot_len (pa_cons (pv 0) pa_nil)) pa_nil)) (pg_name (i := 2) nd rfl (Or.inr rfl))
      (pss_one (ps_if (pt_val (pe_callB (cr_any rfl) (by rfl) T.g_any (by decide +kernel) (pa_cons
        (pe_lc (own := [("above", 3)]) (g := gName 3) (tt := tYes) rfl nd (pi_list (pe_call (ok_lway T) hr (by rfl) T.m__law_way T.F__law_way.kp (b_lway T) .nil pass0 (pa_cons (pv 1) (pa_cons (pv 2) pa_nil))))
          (blkOk_by (own := [("above", 3)]) (N := ["row", "wide", "place", "above"]) (sc := defScope s__law_is_heap) (by decide +kernel)) (fun _ _ _ _ _ => pg_name (i := 3) nd rfl (Or.inl rfl)) (fun _ _ _ _ _ => pts_nil)
          (fun _ _ _ _ _ => pe_cmpR op_lt (pe_ix (r := rIx K) ix_seq (pv 0) (pv 2) (fun _ _ => rfl)) (pe_ix (r := rIx K) ix_seq (pv 0) (pv 3) (fun _ _ => rfl)) (nomark _))) pa_nil))) (pss_one (ps_ret pe_bl)) pss_nil)))
      (pss_one (ps_ret pe_bl)), ?_⟩
    refine ⟨_, rfl, a, _, rfl, hrow.1.len, _, rfl, by omega, by rw [List.length_map]; omega, ?_⟩
    rw [Int.toNat_natCast, List.length_map]
    refine for_range (n := ns.length) (fun k σ H' => ∃ z u, σ = [some (.ref a), some (.int w), z, u] ∧ Same H H' ∧ ∀ p, p < k → lheapB ns w p = false) ⟨none, none, rfl, Same.refl _, fun p hp => (nomatch hp)⟩ ?_ ?_
    · rintro k σ H' hk ⟨z, u, rfl, s1, hno⟩
      have z0 : V.int ((0 : Int) + (k : Nat)) = V.int (k : Nat) := by rw [Int.zero_add]
      rw [z0]
      refine ⟨_, rfl, _, rfl, w, k, rfl, hw, by omega, fun H2 b s2 b0 hb => ?_⟩
      have hwl := way_len w (by omega) k (by omega) hw.1
      refine ⟨b, rfl, ⟨_, SqL.of hb⟩, fun D hD => ?_⟩
      refine lc_it (walk_list (xs := vi (wayL w k))) (PickI H2 D (wayL w k) fun q => some (V.bl (decide (ns.getD k 0 < ns.getD q 0)))) (pick_start hD) (fun k H' _ h => SqL.of (h.s _ _ hb)) ?_ ?_
      · rintro j x H5 H6 hj pk ⟨rfl, ex⟩
        obtain ⟨hj', rfl⟩ := map_at ex
        have hq : (wayL w k)[j] < ns.length := by
          have h := way_le w (by omega) k (by omega) hw.1 _ (List.getElem_mem hj')
          omega
        have hr6 := (hrow.1.same s1).same (s2.trans pk.s)
        refine ⟨rfl, ?_⟩
        refine iteT (B := PickI H2 D (wayL w k) (fun q => some (V.bl (decide (ns.getD k 0 < ns.getD q 0)))) (j + 1) H6) ?_
        exact ⟨_, rfl, _, rfl, ix_sq hr6 hk ⟨_, rfl, _, rfl, ix_sq hr6 hq ⟨_, _, rfl, rfl, pick_yes hj' (by omega) rfl (Same.refl _) pk⟩⟩⟩
      · intro H5 pk
        have ac := pick_end (vi_len _) pk
        have e : ((wayL w k).filterMap fun q => some (V.bl (decide (ns.getD k 0 < ns.getD q 0)))) = ((wayL w k).map fun q => decide (ns.getD k 0 < ns.getD q 0)).map V.bl := by
          rw [List.filterMap_eq_map', List.map_map]
          rfl
        rw [e] at ac
        refine ⟨D, _, rfl, SqL.of ac.a, _, rfl, ?_⟩
        have ea : ((wayL w k).map fun q => decide (ns.getD k 0 < ns.getD q 0)).any id = lheapB ns w k := by
          rw [List.any_map]
          rfl
        rw [ea]
        have s5 := s1.trans (s2.trans ac.s)
        cases hb2 : lheapB ns w k with
        | true =>
          refine iteT ?_
          have el : lheap ns w = false := by
            unfold lheap
            refine List.all_eq_false.mpr ⟨k, List.mem_range.mpr hk, ?_⟩
            rw [hb2]
            exact Bool.false_ne_true
          rw [el] at q
          exact q _ s5
        | false =>
          refine iteF ⟨_, _, rfl, s5, fun p hp => ?_⟩
          by_cases e2 : p = k
          · rw [e2, hb2]
          · exact hno p (by omega)
    · rintro σ H' ⟨z, u, rfl, s1, hno⟩
      have el : lheap ns w = true := by
        unfold lheap
        refine List.all_eq_true.mpr fun p hp => ?_
        rw [hno p (List.mem_range.mp hp)]
        rfl
      rw [el] at q
      exact q _ s1
/-- a pair as data -/
def prP (p : Int × Int) : PyData := .tuple [.int p.1, .int p.2]
theorem prP_dp (K : PySem.W.Frag) {H : Hp} {v : V} {p : Int × Int} (h : PrAt H v p) : Dp K H v (prP p) := by
  obtain ⟨t, rfl, e⟩ := h
  exact .tup (SqT.of e) (.cons (.int _) (.cons (.int _) .nil))
theorem prPs_dp (K : PySem.W.Frag) {H : Hp} : ∀ {xs : List V} {ps : List (Int × Int)}, PrsAt H xs ps → DpAll K H xs (ps.map prP)
  | _, _, .nil => .nil
  | _, _, .cons a b => .cons (prP_dp K a) (prPs_dp K b)
theorem prT_dp (K : PySem.W.Frag) {H : Hp} {t : Addr} {xs : List V} {ps : List (Int × Int)} (h : H t = some (.tup xs)) (hp : PrsAt H xs ps) : Dp K H (.ref t) (.tuple (ps.map prP)) := .tup (SqT.of h) (prPs_dp K hp)
theorem prPs_lay : ∀ ps : List (Int × Int), PyData.canLayAll0 (ps.map prP) = true
  | [] => rfl
  | p :: ps => by
    rw [List.map_cons, PyData.canLayAll0, prPs_lay ps]
    rfl
theorem prPs_deep : ∀ ps : List (Int × Int), PyData.depthAll (ps.map prP) ≤ 3
  | [] => by simp [PyData.depthAll]
  | p :: ps => by
    have := prPs_deep ps
    have hp : PyData.depth (prP p) ≤ 3 := by simp [prP, PyData.depth, PyData.depthAll]
    simp only [List.map_cons, PyData.depthAll]
    omega
theorem prT_shaped (ps : List (Int × Int)) : SeqAt.shaped (.tuple (ps.map prP)) = true := by
  have := prPs_deep ps
  unfold SeqAt.shaped
  rw [Bool.and_eq_true]
  refine ⟨?_, decide_eq_true ?_⟩
  · simp only [PyData.canLay0]
    exact prPs_lay ps
  · simp only [PyData.depth]
    omega
theorem tabs_but {T : List (Addr × Str)} {H H' : Hp} {d : Addr} {xs : List V} (t : Tabs T H) (h : H d = some (.lst xs)) (b : But d H H') : Tabs T H' := fun p hp => by
  obtain ⟨ps, h1, h2, h3⟩ := t p hp
  refine ⟨ps, b _ _ (ne_of h1 h (by intro z; cases z)) h1, h2, fun pos cv hc => ?_⟩
  obtain ⟨c, e1, e2⟩ := h3 pos cv hc
  exact ⟨c, e1, b _ _ (ne_of e2 h (by intro z; unfold LamX.CodeO at z; cases z)) e2⟩
theorem PrsAt.but {H H' : Hp} {d : Addr} {zs xs : List V} {ps : List (Int × Int)} (h : PrsAt H xs ps) (hd : H d = some (.lst zs)) (b : But d H H') : PrsAt H' xs ps := L2.Paired.mapP h fun _ _ ⟨t, q, z⟩ => ⟨t, q, b _ _ (ne_of z hd (by intro y; cases y)) z⟩
theorem RowsAt.but {d : Addr} {H H' : Hp} {zs : List V} {xs : List V} {ls : List (List Int)} (h : RowsAt H xs ls) (s : But d H H') (hd : H d = some (.lst zs)) : RowsAt H' xs ls :=
  L2.Paired.mapP h fun _ _ ⟨t, e, z⟩ => ⟨t, e, s _ _ (ne_of z hd (by intro q; cases q)) z⟩
theorem RowsAt.get {H : Hp} : ∀ {xs : List V} {ls : List (List Int)} {i : Nat} {x : V}, RowsAt H xs ls → xs[i]? = some x → ∃ hi : i < ls.length, RowAt H x ls[i]
  | _, _, 0, _, .cons a _, e => ⟨Nat.succ_pos _, by rw [← Option.some.inj e]; exact a⟩
  | _, _, i + 1, _, .cons _ b, e => by
    obtain ⟨hi, r⟩ := RowsAt.get b (by simpa using e)
    exact ⟨Nat.succ_lt_succ hi, r⟩
theorem TreeAt.but {C d : Addr} {H H' : Hp} {p n w : Nat} {xs : List V} (h : TreeAt C H p n w) (s : But d H H') (hd : H d = some (.lst xs)) : TreeAt C H' p n w := by
  obtain ⟨dx, t, a, b⟩ := h.ob
  exact ⟨⟨dx, t, s _ _ (ne_of a hd (by intro z; cases z)) a, s _ _ (ne_of b hd (by intro z; cases z)) b⟩, h.hn, h.hw⟩
end
end Tw

set_option Elab.async false
set_option linter.all false
set_option maxRecDepth 100000
set_option maxHeartbeats 2000000
namespace Tw
open PySem PySem.Spec PyProof.Rows L2
section
variable {P : Program} {w : World} {K : PySem.W.Frag} {mg : Str → Option Value} {base : Heap} {A : Ad}
open LamX (ExtN Tabs TabS)
/-! the law of k15: spArm ok_arm b_arm ok_take b_take spTake DrAt DrAt.ext DrAt.start DrAt.same But But.of But.trans tabs_but extN_of small1000 TT FitRes spLIs ok_lis b_lis lheap lheap_iff RowIn prT_dp prPs_dp prT_shaped int_flat inV_int perm_row refl_of AccR AllT cut_to cut_from ints_dp ints_eqvL -/
theorem fdF_shows (v : V) : (fdF v).lookup ("shows" : Str) = none := by
  unfold fdF
  rw [lookup_putF, if_neg (by decide +kernel)]
  rfl
theorem fdC_shows (a b c : V) : (fdC a b c).lookup ("shows" : Str) = none := by
  unfold fdC
  rw [lookup_putF, if_neg (by decide +kernel), lookup_putF, if_neg (by decide +kernel), lookup_putF, if_neg (by decide +kernel)]
  rfl
theorem prs_ext {H H' : Hp} {xs : List V} {ps : List (Int × Int)} (h : PrsAt H xs ps) (e : ExtN H H') : PrsAt H' xs ps :=
  L2.Paired.mapP h fun _ _ ⟨t, q, z⟩ => ⟨t, q, e _ _ z fun _ z => nomatch z⟩
theorem prs_but {H H' : Hp} {d : Addr} {zs xs : List V} {ps : List (Int × Int)} (h : PrsAt H xs ps) (e : But d H H') (hd : H d = some (.lst zs)) : PrsAt H' xs ps :=
  L2.Paired.mapP h fun _ _ ⟨t, q, z⟩ => ⟨t, q, e _ _ (ne_of z hd (by intro w; cases w)) z⟩
theorem FitRes.ext {A : Ad} {w : Nat} {bs : List (Int × Int)} {H H' : Hp} {q : Addr} (h : FitRes A w bs H q) (e : ExtN H H') : FitRes A w bs H' q := by
  rcases h with ⟨f, a, b⟩ | ⟨l, g, x, y, a, b, c⟩
  · exact .inl ⟨f, a.ext e, b⟩
  · exact .inr ⟨l, g, x, y, a.ext e, b, c⟩
structure Bw (K : PySem.W.Frag) (A : Ad) (d a r p m : Addr) (ns : List Int) (w k : Nat) (bs ps : List (Int × Int)) (H : Hp) : Prop where
  dr : DrAt K H d a ns k
  t : Tabs (TT A) H
  r : ∃ xs, H r = some (.lst xs) ∧ PrsAt H xs bs
  f : FitRes A w bs H p
  m : ∃ ys, H m = some (.lst ys) ∧ PrsAt H ys ps
theorem Bw.ext {K : PySem.W.Frag} {A : Ad} {d a r p m : Addr} {ns : List Int} {w k : Nat} {bs ps : List (Int × Int)} {H H' : Hp} (h : Bw K A d a r p m ns w k bs ps H) (e : ExtN H H') (t : Tabs (TT A) H') : Bw K A d a r p m ns w k bs ps H' :=
  ⟨h.dr.ext e, t, let ⟨xs, x, y⟩ := h.r; ⟨xs, e _ _ x (fun _ z => nomatch z), prs_ext y e⟩, h.f.ext e, let ⟨xs, x, y⟩ := h.m; ⟨xs, e _ _ x (fun _ z => nomatch z), prs_ext y e⟩⟩
theorem Bw.same {K : PySem.W.Frag} {A : Ad} {d a r p m : Addr} {ns : List Int} {w k : Nat} {bs ps : List (Int × Int)} {H H' : Hp} (h : Bw K A d a r p m ns w k bs ps H) (s : Same H H') : Bw K A d a r p m ns w k bs ps H' := h.ext (extN_of s) (h.t.ext s)
def prsD (ps : List (Int × Int)) : PyData := .list (ps.map prP)
theorem prs_dp (K : PySem.W.Frag) {H : Hp} {D : Addr} {xs : List V} {ps : List (Int × Int)} (h : H D = some (.lst xs)) (t : PrsAt H xs ps) : Dp K H (.ref D) (prsD ps) := .lst (SqL.of h) (prPs_dp K t)
theorem prs_shaped (ps : List (Int × Int)) : SeqAt.shaped (prsD ps) = true := by
  have h := prT_shaped ps
  unfold SeqAt.shaped at h ⊢
  unfold prsD
  exact h
theorem zip_is {w : Nat} {bs ps : List (Int × Int)} {L G : List Int} (hL : L.length = bs.length) (hG : G.length = bs.length) (hp : ps.length = bs.length) (h : Told w bs (keyAt L) (keyAt G)) (k : Told w bs (bA ps) (bB ps)) : L.zip G = ps := by
  refine List.ext_getElem? fun i => ?_
  by_cases hi : i < bs.length
  · have h1 := Told.uniqL h k i i (Nat.le_refl _) hi
    have h2 := Told.uniqG h k _ i (Nat.le_refl _) hi
    have hz : i < (L.zip G).length := by rw [List.length_zip]; omega
    obtain ⟨_, _, e⟩ := zip_at (List.getElem?_eq_getElem hz)
    rw [List.getElem?_eq_getElem hz, List.getElem?_eq_getElem (show i < ps.length by omega), e, h1, h2]
    unfold bA bB
    rw [List.getD_eq_getElem?_getD, List.getElem?_eq_getElem (show i < ps.length by omega)]
    rfl
  · rw [List.getElem?_eq_none (by rw [List.length_zip]; omega), List.getElem?_eq_none (by omega)]
theorem unfix {w p : Nat} {bs : List (Int × Int)} {k : Int} {r : Nat → Nat} (hp : p < bs.length) (hk : bA bs p ≤ k ∧ k ≤ bB bs p) (h : Fit w (fixB bs p k) r) : Fit w bs r := by
  obtain ⟨h1, h2, h3, h4⟩ := h
  rw [List.length_set] at h1 h2 h3 h4
  refine ⟨h1, h2, h3, fun q hq => ?_⟩
  have := h4 q hq
  rw [(fix_at hp).1, (fix_at hp).2] at this
  by_cases e : q = p
  · rw [if_pos e, if_pos e] at this
    rw [e] at this ⊢
    omega
  · rw [if_neg e, if_neg e] at this
    exact this
theorem AtF.but {C : Addr} {H H' : Hp} {p d : Addr} {x0 : List Int} {zs : List V} (h : AtF C H p x0) (b : But d H H') (hd : H d = some (.lst zs)) : AtF C H' p x0 := by
  obtain ⟨dx, t, h1, h2⟩ := h
  exact ⟨dx, t, b _ _ (ne_of h1 hd (by intro z; cases z)) h1, b _ _ (ne_of h2 hd (by intro z; cases z)) h2⟩
theorem AtC.but {C : Addr} {H H' : Hp} {p d : Addr} {x0 x1 : Int} {x2 : List Int} {zs : List V} (h : AtC C H p x0 x1 x2) (b : But d H H') (hd : H d = some (.lst zs)) : AtC C H' p x0 x1 x2 := by
  obtain ⟨dx, t, h1, h2⟩ := h
  exact ⟨dx, t, b _ _ (ne_of h1 hd (by intro z; cases z)) h1, b _ _ (ne_of h2 hd (by intro z; cases z)) h2⟩
theorem Bw.draw {K : PySem.W.Frag} {A : Ad} {d a r p m : Addr} {ns : List Int} {w k k' : Nat} {bs ps : List (Int × Int)} {H H' : Hp} (h : Bw K A d a r p m ns w k bs ps H) (b : But d H H') (dr : DrAt K H' d a ns k') (hn : 7 ≤ bs.length) (hp : ps.length = bs.length := by assumption) : Bw K A d a r p m ns w k' bs ps H' := by
  obtain ⟨dr0, t, ⟨xs, er, hr⟩, f, ⟨ys, em, hm⟩⟩ := h
  have h1 := Paired.length hr
  have h2 := Paired.length hm
  have ed := dr0.l
  refine ⟨dr, tabs_but t ed b, ⟨xs, b _ _ (ne_of er ed ?_) er, prs_but hr b ed⟩, ?_, ⟨ys, b _ _ (ne_of em ed ?_) em, prs_but hm b ed⟩⟩
  · intro z
    injection z with z
    rw [z] at h1
    have h1 : 2 = bs.length := h1
    omega
  · rcases f with ⟨f, x, y⟩ | ⟨l, g, x, y, u, v, c⟩
    · exact .inl ⟨f, x.but b ed, y⟩
    · exact .inr ⟨l, g, x, y, u.but b ed, v, c⟩
  · intro z
    injection z with z
    rw [z] at h2
    have h2 : 2 = ps.length := h2
    omega
def clipP (n : Nat) (x : Int × Int) : Int × Int := (if x.1 > 0 then x.1 else 0, if x.2 < (n : Int) - 1 then x.2 else (n : Int) - 1)
theorem clip_at {n q : Nat} {ps : List (Int × Int)} (h : q < ps.length) : bA (ps.map (clipP n)) q = (if bA ps q > 0 then bA ps q else 0) ∧ bB (ps.map (clipP n)) q = (if bB ps q < (n : Int) - 1 then bB ps q else (n : Int) - 1) := by
  unfold bA bB
  rw [List.getD_eq_getElem?_getD, List.getD_eq_getElem?_getD, List.getElem?_map, List.getElem?_eq_getElem h]
  exact ⟨rfl, rfl⟩
theorem clip_ok {w : Nat} {bs ps : List (Int × Int)} {f : Nat → Nat} (hl : ps.length = bs.length) (ft : Fit w bs f) (hc : ∀ q, q < bs.length → bA ps q ≤ (f q : Int) ∧ (f q : Int) ≤ bB ps q) : BOk (ps.map (clipP bs.length)) := fun q hq => by
  rw [List.length_map] at hq ⊢
  rw [(clip_at hq).1, (clip_at hq).2]
  have h1 := hc q (by omega)
  have h2 := ft.lt q (by omega)
  split <;> split <;> omega
theorem clip_fit {w : Nat} {bs ps : List (Int × Int)} {f : Nat → Nat} (hl : ps.length = bs.length) (ft : Fit w bs f) (hc : ∀ q, q < bs.length → bA ps q ≤ (f q : Int) ∧ (f q : Int) ≤ bB ps q) : Fit w (ps.map (clipP bs.length)) f := by
  have e : (ps.map (clipP bs.length)).length = bs.length := by rw [List.length_map]; exact hl
  refine ⟨fun p hp => by rw [e] at hp ⊢; exact ft.lt p hp, fun p q hp hq => by rw [e] at hp hq; exact ft.inj p q hp hq, fun c c0 cn => by rw [e] at cn; exact ft.heap c c0 cn, fun q hq => ?_⟩
  rw [e] at hq
  rw [(clip_at (by omega)).1, (clip_at (by omega)).2]
  have h1 := hc q hq
  have h2 := ft.lt q hq
  split <;> split <;> omega
theorem set_at {bs : List (Int × Int)} {p q : Nat} {x : Int × Int} (hq : q < bs.length) : (q = p ∧ bA (bs.set p x) q = x.1 ∧ bB (bs.set p x) q = x.2) ∨ (q ≠ p ∧ bA (bs.set p x) q = bA bs q ∧ bB (bs.set p x) q = bB bs q) := by
  unfold bA bB
  rw [List.getD_eq_getElem?_getD, List.getD_eq_getElem?_getD, List.getElem?_set]
  by_cases e : p = q
  · subst e
    rw [if_pos rfl, if_pos hq]
    exact .inl ⟨rfl, rfl, rfl⟩
  · rw [if_neg e]
    exact .inr ⟨fun z => e z.symm, rfl, rfl⟩
theorem loose_ok {bs : List (Int × Int)} {p : Nat} (ok : BOk bs) : BOk (bs.set p (0, (bs.length : Int) - 1)) := fun q hq => by
  rw [List.length_set] at hq ⊢
  rcases set_at (p := p) (x := (0, (bs.length : Int) - 1)) hq with ⟨_, b, c⟩ | ⟨_, b, c⟩
  · rw [b, c]
    show (0 : Int) ≤ 0 ∧ (0 : Int) ≤ (bs.length : Int) - 1 ∧ (bs.length : Int) - 1 ≤ (bs.length : Int) - 1
    omega
  · rw [b, c]
    exact ok q hq
theorem set_fit {w p : Nat} {bs : List (Int × Int)} {f : Nat → Nat} {x : Int × Int} (ft : Fit w bs f) (hx : p < bs.length → x.1 ≤ (f p : Int) ∧ (f p : Int) ≤ x.2) : Fit w (bs.set p x) f := by
  have e : (bs.set p x).length = bs.length := List.length_set
  refine ⟨fun p hp => by rw [e] at hp ⊢; exact ft.lt p hp, fun p q hp hq => by rw [e] at hp hq; exact ft.inj p q hp hq, fun c c0 cn => by rw [e] at cn; exact ft.heap c c0 cn, fun q hq => ?_⟩
  rw [e] at hq
  rcases set_at (p := p) (x := x) hq with ⟨a, b, c⟩ | ⟨_, b, c⟩
  · rw [b, c, a]
    exact hx (a ▸ hq)
  · rw [b, c]
    exact ft.inn q hq
theorem loose_fit {w p : Nat} {bs : List (Int × Int)} {f : Nat → Nat} (ft : Fit w bs f) : Fit w (bs.set p (0, (bs.length : Int) - 1)) f := set_fit ft fun h => by
  have := ft.lt p h
  show (0 : Int) ≤ (f p : Int) ∧ (f p : Int) ≤ (bs.length : Int) - 1
  omega
theorem fix_fit {w p : Nat} {bs : List (Int × Int)} {f : Nat → Nat} (hp : p < bs.length) (ft : Fit w bs f) : Fit w (fixB bs p (f p)) f := set_fit ft fun _ => ⟨Int.le_refl _, Int.le_refl _⟩
theorem set_cuts (xs : List V) {s : Nat} (x : V) (h : s < xs.length) : cutV xs none (some ((s : Nat) : Int)) ++ [x] ++ cutV xs (some (((s : Nat) : Int) + 1)) none = xs.set s x := by
  rw [cut_to, show ((s : Nat) : Int) + 1 = ((s + 1 : Nat) : Int) by omega, cut_from, List.set_eq_take_append_cons_drop, if_pos h, List.append_assoc]
  rfl
def spLaw (K : PySem.W.Frag) (A : Ad) : Sp := fun vs H Q _ => ∃ (a : Addr) (ns : List Int), vs = [.ref a] ∧ SqL K H a (ns.map V.int) ∧ ns.length ≤ 63 ∧ Tabs (TT A) H ∧ ∀ H', Q (.bl true) H'
theorem ok_law (T : Tx K mg A) (TB : LamX.TabB base mg A.c_most_urgent_first A.P_most_urgent_first) : FnOk P w K mg base CX0 18 A.f_law A.d_law ["script"] (spLaw K A) := by
  obtain ⟨mtb, ktb⟩ := kb_tb T
  obtain ⟨mfi, kfit⟩ := kb_fit T
  obtain ⟨mcf, kcf⟩ := kb_cf T
  obtain ⟨mrw, krw⟩ := kb_rw2 T
  obtain ⟨mfs, kfsh⟩ := kb_fsh T
  obtain ⟨mcs, kcsh⟩ := kb_csh T
  refine T.F_law.ok sc_law (fun vs H Q E h => ?_) (fun cdv B outer s H vs Q E hr h => ?_)
  · obtain ⟨a, ns, rfl, _⟩ := h
    rfl
  · obtain ⟨a, ns, rfl, hs, hl, hT, q⟩ := h
    have nd := sc_law.nd
    have hu : (B.deeper (envOfC "law" (defScope s_law) s.heap.objs.size A.f_law cdv)).units + 64 < cLine := hr.units
    refine ⟨_, PSs.nox (pss_cons (ps_set (i := 1) nd rfl (Or.inl rfl) (pe_lst (pa_cons (pv 0) (pa_cons pe_int pa_nil))))
      (C8.pss_cut (ps_for PassesOwn.never rfl (pi_range1 rfl T.g_range (pa_cons pe_int pa_nil)) (pg_name (i := 2) nd rfl (Or.inl rfl)) (C8.pss_cut (ps_asg (pe_tup (pa_cons (pe_call (ok_arm T) (hr.mono (by decide)) (by rfl) T.m__law_arms T.F__law_arms.kp (b_arm T) .nil pass0 (pa_cons (pv 1) pa_nil)) (pa_cons (pe_op op_add pe_int (pe_call (ok_take T) (hr.mono (by decide)) (by rfl) T.m__law_take T.F__law_take.kp (b_take T) .nil pass0 (pa_cons (pv 1) (pa_cons pe_int pa_nil)))) pa_nil))) (pg_tup rfl (pgs_cons (pg_name (i := 3) nd rfl (Or.inl rfl)) (pgs_cons (pg_name (i := 4) nd rfl (Or.inr rfl)) pgs_nil))))
      (C8.pss_cut (ps_set (i := 5) nd rfl (Or.inl rfl) (pe_ifExp (pt_cmpR op_lt (pv 2) pe_int (nomark _)) (pe_call (ok_lpr T) (hr.mono (by decide)) (by rfl) T.m__law_pairs T.F__law_pairs.kp (b_lpr T) .nil pass0 (pa_cons (pv 1) (pa_cons (pv 4) pa_nil))) (pe_call (ok_lnp T) (hr.mono (by decide)) (by rfl) T.m__law_near_pairs T.F__law_near_pairs.kp (b_lnp T) .nil pass0 (pa_cons (pv 1) (pa_cons (pv 3) (pa_cons (pv 4) pa_nil))))))
      (C8.pss_cut (ps_par (i := 6) (j := 7) rfl nd rfl rfl (by decide) rfl rfl (pa_cons (pe_callN (ok_fit T TB) (hr.mono (by decide)) (by rfl) T.m_fit T.F_fit.kp kfit pass0 (pa_cons (pv 5) pa_nil) (pk_cons (pv 3) pk_nil)) (pa_cons (pe_call (ok_lmu T) (hr.mono (by decide)) (by rfl) T.m__law_must T.F__law_must.kp (b_lmu T) .nil pass0 (pa_cons (pv 5) (pa_cons (pv 3) pa_nil))) pa_nil)) rfl)
      (C8.pss_cut (ps_if (pt_cmpR op_notBl (pe_two (pe_methN (pv 6) T.cTF T.M_f_shows (ok_fsh T) (hr.mono (by decide)) kfsh pass0 (pa_cons (pv 5) pa_nil) (pk_cons (pv 3) pk_nil)) (pe_methN (pv 6) T.cTC T.M_c_shows (ok_csh T) (hr.mono (by decide)) kcsh pass0 (pa_cons (pv 5) pa_nil) (pk_cons (pv 3) pk_nil))) pe_bl (nomark _)) (pss_one (ps_ret pe_bl)) pss_nil)
      (C8.pss_cut (ps_if (pt_cmpR (op_neD hu) (pe_callN (ok_tb T) (hr.mono (by decide)) (by rfl) T.m_told_bounds T.F_told_bounds.kp ktb pass0 (pa_cons (pv 5) pa_nil) (pk_cons (pv 3) pk_nil)) (pv 7) (nomark _)) (pss_one (ps_ret pe_bl)) pss_nil)
      (C8.pss_cut (ps_if (pt_cmpR op_ne (pe_callB (r := rIsi K) call_isi (by rfl) T.g_isinstance (by decide +kernel) (pa_cons (pv 6) (pa_cons (pe_glob (v := .ref A.CF) (by rfl) T.mCF (relR _)) pa_nil))) (pe_callN (ok_cf T TB) (hr.mono (by decide)) (by rfl) T.m_can_fit T.F_can_fit.kp kcf pass0 (pa_cons (pv 5) pa_nil) (pk_cons (pv 3) pk_nil)) (nomark _)) (pss_one (ps_ret pe_bl)) pss_nil)
      (C8.pss_cut (ps_if (PW.pt (pw_and (pt_cmpR op_ge (pv 2) pe_int (nomark _)) (pw_and1 (pt_not (pt_val (pe_callN (ok_cf T TB) (hr.mono (by decide)) (by rfl) T.m_can_fit T.F_can_fit.kp kcf pass0 (pa_cons (pv 5) pa_nil) (pk_cons (pv 3) pk_nil))))))) (pss_one (ps_ret pe_bl)) pss_nil)
      (C8.pss_cut (ps_if (PW.pt (pw_and (pt_val (pe_callB (r := rIsi K) call_isi (by rfl) T.g_isinstance (by decide +kernel) (pa_cons (pv 6) (pa_cons (pe_glob (v := .ref A.CC) (by rfl) T.mCC (relR _)) pa_nil)))) (pw_and1 (pt_val (pe_callB (cr_any rfl) (by rfl) T.g_any (by decide +kernel) (pa_cons (pe_lc (own := [("some", 11)]) (g := gName 11) (tt := tYes) rfl nd (pi_list (pe_callN (ok_rw2 T TB) (hr.mono (by decide)) (by rfl) T.m_ranks_within T.F_ranks_within.kp krw pass0 (pa_cons (pv 5) pa_nil) (pk_cons (pv 3) pk_nil))) (blkOk_by (own := [("some", 11)]) (N := ["script", "draw", "turn", "wide", "many", "bounds", "found", "must", "spot", "loose", "fixed", "some", "pair"]) (sc := defScope s_law) (by decide +kernel)) (fun _ _ _ _ _ => pg_name (i := 11) nd rfl (Or.inl rfl)) (fun _ _ _ _ _ => pts_nil) (fun _ _ _ _ _ => (pe_cmpR (r := L2.rNeD K) (op_neD hu) (pv 11) (pe_tup pa_nil) (nomark _)))) pa_nil)))))) (pss_one (ps_ret pe_bl)) pss_nil)
      (pss_one (ps_if (pt_val (pe_callB (r := rIsi K) call_isi (by rfl) T.g_isinstance (by decide +kernel) (pa_cons (pv 6) (pa_cons (pe_glob (v := .ref A.CF) (by rfl) T.mCF (relR _)) pa_nil)))) (C8.pss_cut (ps_if (PW.pt (pw_or (pt_not (pt_val (pe_call (ok_lis T) (hr.mono (by decide)) (by rfl) T.m__law_is_heap T.F__law_is_heap.kp (b_lis T) .nil pass0 (pa_cons (pe_fld (pv 6) rfl) (pa_cons (pv 3) pa_nil))))) (pw_or1 (pt_not (pt_val (pe_call (ok_lfi T) (hr.mono (by decide)) (by rfl) T.m__law_fits T.F__law_fits.kp (b_lfi T) .nil pass0 (pa_cons (pe_fld (pv 6) rfl) (pa_cons (pv 7) pa_nil)))))))) (pss_one (ps_ret pe_bl)) pss_nil)
      (C8.pss_cut (ps_if (pt_not (pt_val (pe_callN (ok_cf T TB) (hr.mono (by decide)) (by rfl) T.m_can_fit T.F_can_fit.kp kcf pass0 (pa_cons (pe_lc (own := [("pair", 12)]) (g := gName 12) (tt := tYes) rfl nd (pi_list (pv 7)) (blkOk_by (own := [("pair", 12)]) (N := ["script", "draw", "turn", "wide", "many", "bounds", "found", "must", "spot", "loose", "fixed", "some", "pair"]) (sc := defScope s_law) (by decide +kernel)) (fun _ _ _ _ _ => pg_name (i := 12) nd rfl (Or.inl rfl)) (fun _ _ _ _ _ => pts_nil) (fun _ _ _ _ _ => (pe_tup (pa_cons (pe_callB (call_max2 rfl) (by rfl) T.g_max (by decide +kernel) (pa_cons pe_int (pa_cons (pe_ix (r := rIxT K) ix_tup (pv 12) pe_int (fun _ _ => rfl)) pa_nil))) (pa_cons (pe_callB (call_min2 rfl) (by rfl) T.g_min (by decide +kernel) (pa_cons (pe_op op_sub (pv 4) pe_int) (pa_cons (pe_ix (r := rIxT K) ix_tup (pv 12) pe_int (fun _ _ => rfl)) pa_nil))) pa_nil))))) pa_nil) (pk_cons (pv 3) pk_nil)))) (pss_one (ps_ret pe_bl)) pss_nil)
      (C8.pss_cut (ps_set (i := 8) nd rfl (Or.inl rfl) (pe_call (ok_take T) (hr.mono (by decide)) (by rfl) T.m__law_take T.F__law_take.kp (b_take T) .nil pass0 (pa_cons (pv 1) (pa_cons (pv 4) pa_nil))))
      (C8.pss_cut (ps_set (i := 9) nd rfl (Or.inl rfl) (pe_op op_cat (pe_op op_cat (pe_slice (r := rSlL K) sl_list (pv 5) po_none (po_some (pv 8))) (pe_lst (pa_cons (pe_tup (pa_cons pe_int (pa_cons (pe_op op_sub (pv 4) pe_int) pa_nil))) pa_nil))) (pe_slice (r := rSlL K) sl_list (pv 5) (po_some (pe_op op_add (pv 8) pe_int)) po_none)))
      (C8.pss_cut (ps_set (i := 10) nd rfl (Or.inl rfl) (pe_op op_cat (pe_op op_cat (pe_slice (r := rSlL K) sl_list (pv 5) po_none (po_some (pv 8))) (pe_lst (pa_cons (pe_tup (pa_cons (pe_ix (r := rIxT K) ix_tup (pe_fld (pv 6) rfl) (pv 8) (fun _ _ => rfl)) (pa_cons (pe_ix (r := rIxT K) ix_tup (pe_fld (pv 6) rfl) (pv 8) (fun _ _ => rfl)) pa_nil))) pa_nil))) (pe_slice (r := rSlL K) sl_list (pv 5) (po_some (pe_op op_add (pv 8) pe_int)) po_none)))
      (C8.pss_cut (ps_if (PW.pt (pw_or (pt_not (pt_val (pe_callN (ok_cf T TB) (hr.mono (by decide)) (by rfl) T.m_can_fit T.F_can_fit.kp kcf pass0 (pa_cons (pv 9) pa_nil) (pk_cons (pv 3) pk_nil)))) (pw_or1 (pt_not (pt_val (pe_callN (ok_cf T TB) (hr.mono (by decide)) (by rfl) T.m_can_fit T.F_can_fit.kp kcf pass0 (pa_cons (pv 10) pa_nil) (pk_cons (pv 3) pk_nil))))))) (pss_one (ps_ret pe_bl)) pss_nil)
      (pss_one (ps_if (pt_cmpR (r := L2.rIn K true) op_notIn_seq (pe_ix (r := rIxT K) ix_tup (pe_fld (pv 6) rfl) (pv 8) (fun _ _ => rfl)) (pe_ix (r := rIxL K) ix_list (pe_callN (ok_rw2 T TB) (hr.mono (by decide)) (by rfl) T.m_ranks_within T.F_ranks_within.kp krw pass0 (pa_cons (pv 5) pa_nil) (pk_cons (pv 3) pk_nil)) (pv 8) (fun _ _ => rfl)) (by rfl)) (pss_one (ps_ret pe_bl)) pss_nil)))))))) pss_nil)))))))))))
      (pss_one (ps_ret pe_bl)))), ?_⟩
    refine ⟨_, rfl, by show 2 ≤ sizeLine; decide, fun d hd => ?_⟩
    have dr0 : DrAt K _ d a ns 0 := DrAt.start hs hl hd
    have t0 : LamX.Tabs (TT A) (upd H d (.lst [.ref a, .int 0])) := hT.ext (Same.up hd)
    refine ⟨fun _ _ => True, ?_, fun _ H' _ => q H'⟩
    refine ⟨4, rfl, by decide, by decide, for_range (n := 4) (fun i σ H' => ∃ (k : Nat) (x2 x3 x4 x5 x6 x7 x8 x9 x10 x11 x12 : Option V), σ = [some (.ref a), some (.ref d), x2, x3, x4, x5, x6, x7, x8, x9, x10, x11, x12] ∧ DrAt K H' d a ns k ∧ LamX.Tabs (TT A) H' ∧ k ≤ 60 * i)
        ⟨0, none, none, none, none, none, none, none, none, none, none, none, rfl, dr0, t0, by omega⟩ ?_ (fun _ _ _ => trivial)⟩
    rintro i σ H1 hi ⟨k, x2, x3, x4, x5, x6, x7, x8, x9, x10, x11, x12, rfl, dr1, t1, hk⟩
    refine ⟨fun σ' H' => ∃ (w1 n : Nat), σ' = [some (.ref a), some (.ref d), some (.int ((0 : Int) + (i : Nat))), some (.int w1), some (.int n), x5, x6, x7, x8, x9, x10, x11, x12] ∧ (DrAt K H' d a ns (k + 1 + 1) ∧ LamX.Tabs (TT A) H') ∧ (1 ≤ w1 ∧ w1 ≤ 4) ∧ 7 ≤ n ∧ n ≤ 12, ?_, ?_⟩
    · refine ⟨_, rfl, d, a, ns, k, rfl, dr1, by omega, fun H2 w1 b2 dr2 hw => ?_⟩
      have t2 := tabs_but t1 dr1.l b2
      refine ⟨_, rfl, d, a, ns, k + 1, 6, rfl, dr2, by omega, by omega, fun H3 z b3 dr3 hz => ?_⟩
      have t3 := tabs_but t2 dr2.l b3
      refine ⟨_, _, rfl, rfl, by show 2 ≤ sizeLine; decide, fun t nt => ⟨_, _, rfl, SqT.of upd_same, rfl, _, _, rfl, _, _, rfl, rfl, w1, 7 + z, ?_, ⟨dr3.same (Same.up nt), t3.ext (Same.up nt)⟩, hw, by omega, by omega⟩⟩
      rw [Int.natCast_add]
      rfl
    rintro σ' H2 ⟨w1, n, rfl, ⟨dr2, t2⟩, hw, hn7, hn⟩
    refine ⟨fun σ' H' => ∃ (r : Addr) (xs : List V) (bs : List (Int × Int)) (k' : Nat), σ' = [some (.ref a), some (.ref d), some (.int ((0 : Int) + (i : Nat))), some (.int w1), some (.int n), some (.ref r), x6, x7, x8, x9, x10, x11, x12] ∧ (DrAt K H' d a ns k' ∧ LamX.Tabs (TT A) H' ∧ H' r = some (.lst xs) ∧ PrsAt H' xs bs) ∧ k' ≤ k + 50 ∧ bs.length = n ∧ BOk bs ∧ (2 ≤ i → Fits w1 bs), ?_, ?_⟩
    · refine ⟨_, rfl, _, _, rfl, rfl, _, rfl, ite2 (fun _ => ?_) (fun z => ?_)⟩
      · exact ⟨_, rfl, _, rfl, d, a, ns, k + 1 + 1, n, rfl, dr2, by omega, by omega, hn, fun H3 r xs bs b3 dr3 _ er hps hbl hok => ⟨r, xs, bs, _, rfl, ⟨dr3, tabs_but t2 dr2.l b3, er, hps⟩, by omega, hbl, hok, fun h2 => absurd (of_decide_eq_true (by assumption)) (by omega)⟩⟩
      · exact ⟨_, rfl, _, rfl, _, rfl, d, a, ns, k + 1 + 1, w1, n, rfl, dr2, by omega, hw, by omega, hn, fun H3 r xs bs k' b3 dr3 hk' _ er hps hbl hok hf => ⟨r, xs, bs, k', rfl, ⟨dr3, tabs_but t2 dr2.l b3, er, hps⟩, by omega, hbl, hok, fun _ => hf⟩⟩
    rintro σ' H3 ⟨r, xs, bs, k3, rfl, ⟨dr3, t3, er, hps⟩, hk3, rfl, hok, hfi⟩
    refine ⟨fun σ' H' => ∃ (p m : Addr) (ps : List (Int × Int)), σ' = [some (.ref a), some (.ref d), some (.int ((0 : Int) + (i : Nat))), some (.int w1), some (.int bs.length), some (.ref r), some (.ref p), some (.ref m), x8, x9, x10, x11, x12] ∧ Bw K A d a r p m ns w1 k3 bs ps H' ∧ ps.length = bs.length ∧ Told w1 bs (bA ps) (bB ps), ?_, ?_⟩
    · refine ⟨_, rfl, _, rfl, rfl, rfl, r, w1, xs, bs, rfl, hw, er, hps, hn, hok, t3, fun H4 p e4 t4 hres => ?_⟩
      have er4 := e4 _ _ er (fun _ z => nomatch z)
      refine ⟨_, rfl, _, rfl, r, w1, xs, bs, rfl, hw, er4, prs_ext hps e4, hn, fun H5 m ys ps s5 n5 em hm hml htd => ?_⟩
      exact ⟨_, _, rfl, p, m, ps, rfl, ⟨(dr3.ext e4).same s5, t4.ext s5, ⟨xs, s5 _ _ er4, (prs_ext hps e4).same s5⟩, hres.ext (extN_of s5), ⟨ys, em, hm⟩⟩, hml, htd⟩
    rintro σ' H4 ⟨p, m, ps, rfl, bw4, hpl, htd⟩
    -- shows
    refine ⟨fun σ' H' => σ' = [some (.ref a), some (.ref d), some (.int ((0 : Int) + (i : Nat))), some (.int w1), some (.int bs.length), some (.ref r), some (.ref p), some (.ref m), x8, x9, x10, x11, x12] ∧ Bw K A d a r p m ns w1 k3 bs ps H', ?_, ?_⟩
    · obtain ⟨zs, ez, hz⟩ := bw4.r
      rcases id bw4.f with ⟨f, af, ft⟩ | ⟨l, g, x, y, ac, tl, hc⟩
      · obtain ⟨dx, t0, a0, e0⟩ := id af
        refine .inl ⟨_, rfl, p, dx, _, rfl, a0, fdF_shows _, _, rfl, _, rfl, rfl, rfl, p, r, w1, zs, bs, f, rfl, hw, ez, hz, hn, hok, af, ft, fun H5 s5 => ?_⟩
        exact ⟨true, true, rfl, rfl, _, rfl, ite_b (c := false) (by rw [decide_eq_true rfl]; rfl) (iteF ⟨rfl, bw4.same s5⟩)⟩
      · obtain ⟨dx, t0, a0, e0⟩ := id ac
        refine .inr ⟨_, rfl, p, dx, _, rfl, a0, fdC_shows _ _ _, _, rfl, _, rfl, rfl, rfl, p, r, w1, zs, bs, l, g, x, y, rfl, hw, ez, hz, hn, hok, ac, tl, hc, fun H5 s5 => ?_⟩
        exact ⟨true, true, rfl, rfl, _, rfl, ite_b (c := false) (by rw [decide_eq_true rfl]; rfl) (iteF ⟨rfl, bw4.same s5⟩)⟩
    rintro σ' H5 ⟨rfl, bw5⟩
    -- told
    refine ⟨fun σ' H' => σ' = [some (.ref a), some (.ref d), some (.int ((0 : Int) + (i : Nat))), some (.int w1), some (.int bs.length), some (.ref r), some (.ref p), some (.ref m), x8, x9, x10, x11, x12] ∧ Bw K A d a r p m ns w1 k3 bs ps H', ?_, ?_⟩
    · obtain ⟨zs, ez, hz⟩ := bw5.r
      refine ⟨_, rfl, _, rfl, rfl, rfl, r, w1, zs, bs, rfl, hw, ez, hz, hn, hok, fun H6 q ys L G s6 nq eq pq hL hG ht => ?_⟩
      have bw6 := bw5.same s6
      obtain ⟨us, em, hm⟩ := bw6.m
      have ee : L.zip G = ps := zip_is hL hG hpl ht htd
      rw [ee] at pq
      refine ⟨_, rfl, prsD ps, prsD ps, prs_dp K eq pq, prs_dp K em hm, prs_shaped ps, prs_shaped ps, ?_⟩
      rw [refl_of (prs_shaped ps)]
      exact ⟨false, rfl, iteF ⟨rfl, bw6⟩⟩
    rintro σ' H6 ⟨rfl, bw6⟩
    -- fitted or not
    refine ⟨fun σ' H' => σ' = [some (.ref a), some (.ref d), some (.int ((0 : Int) + (i : Nat))), some (.int w1), some (.int bs.length), some (.ref r), some (.ref p), some (.ref m), x8, x9, x10, x11, x12] ∧ Bw K A d a r p m ns w1 k3 bs ps H', ?_, ?_⟩
    · obtain ⟨zs, ez, hz⟩ := bw6.r
      rcases id bw6.f with ⟨f, ⟨dx, t0, a0, e0⟩, ft⟩ | ⟨l, g, x, y, ⟨dx, t0, a0, e0⟩, tl, hc⟩
      · refine ⟨_, rfl, _, _, .ref A.CF, .ref A.CF, true, rfl, .own A.CF, .base (.ins a0 T.cTF T.kaF T.knF T.ktkF T.kmF), (by unfold PySem.W.kitOne; rw [if_pos (by simp)]), ?_⟩
        refine ⟨_, rfl, _, rfl, rfl, rfl, r, w1, zs, bs, rfl, hw, ez, hz, hn, hok, bw6.t, fun H7 b e7 t7 hb => ?_⟩
        obtain rfl : b = true := hb.mpr ⟨f, ft⟩
        exact ⟨rfl, _, rfl, ite_b (c := false) (by rw [decide_eq_true rfl]; rfl) (iteF ⟨rfl, bw6.ext e7 t7⟩)⟩
      · refine ⟨_, rfl, _, _, .ref A.CC, .ref A.CF, false, rfl, .own A.CF, .base (.ins a0 T.cTC T.kaC T.knC T.ktkC T.kmC), T.kiF_CC, ?_⟩
        refine ⟨_, rfl, _, rfl, rfl, rfl, r, w1, zs, bs, rfl, hw, ez, hz, hn, hok, bw6.t, fun H7 b e7 t7 hb => ?_⟩
        obtain rfl : b = false := by
          cases b with
          | false => rfl
          | true =>
            obtain ⟨r', hr'⟩ := hb.mp rfl
            exact absurd hc (hr'.no_crowd tl x y)
        exact ⟨rfl, _, rfl, ite_b (c := false) (by rw [decide_eq_true rfl]; rfl) (iteF ⟨rfl, bw6.ext e7 t7⟩)⟩
    rintro σ' H7 ⟨rfl, bw7⟩
    -- near pairs
    refine ⟨fun σ' H' => σ' = [some (.ref a), some (.ref d), some (.int ((0 : Int) + (i : Nat))), some (.int w1), some (.int bs.length), some (.ref r), some (.ref p), some (.ref m), x8, x9, x10, x11, x12] ∧ Bw K A d a r p m ns w1 k3 bs ps H', ?_, ?_⟩
    · obtain ⟨zs, ez, hz⟩ := bw7.r
      refine ⟨_, rfl, _, _, rfl, rfl, _, rfl, ?_⟩
      by_cases h2 : 2 ≤ i
      · refine ite_b (c := true) (decide_eq_true (by omega)) (iteT ?_)
        refine ⟨_, rfl, _, rfl, rfl, rfl, r, w1, zs, bs, rfl, hw, ez, hz, hn, hok, bw7.t, fun H8 b e8 t8 hb => ?_⟩
        obtain rfl : b = true := hb.mpr (hfi h2)
        exact ⟨true, rfl, iteF ⟨rfl, bw7.ext e8 t8⟩⟩
      · exact ite_b (c := false) (decide_eq_false (by omega)) (iteF ⟨rfl, bw7⟩)
    rintro σ' H8 ⟨rfl, bw8⟩
    -- a crowd: no ranks
    refine ⟨fun σ' H' => σ' = [some (.ref a), some (.ref d), some (.int ((0 : Int) + (i : Nat))), some (.int w1), some (.int bs.length), some (.ref r), some (.ref p), some (.ref m), x8, x9, x10, x11, x12] ∧ Bw K A d a r p m ns w1 k3 bs ps H', ?_, ?_⟩
    · obtain ⟨zs, ez, hz⟩ := bw8.r
      rcases id bw8.f with ⟨f, ⟨dx, t0, a0, e0⟩, ft⟩ | ⟨l, g, x, y, ⟨dx, t0, a0, e0⟩, tl, hc⟩
      · exact ⟨_, rfl, _, _, .ref A.CF, .ref A.CC, false, rfl, .own A.CC, .base (.ins a0 T.cTF T.kaF T.knF T.ktkF T.kmF), T.kiC_CF, _, rfl, iteF ⟨rfl, bw8⟩⟩
      · refine ⟨_, rfl, _, _, .ref A.CC, .ref A.CC, true, rfl, .own A.CC, .base (.ins a0 T.cTC T.kaC T.knC T.ktkC T.kmC), (by unfold PySem.W.kitOne; rw [if_pos (by simp)]), _, rfl, iteT ?_⟩
        refine ⟨_, rfl, _, rfl, rfl, rfl, r, w1, zs, bs, rfl, hw, ez, hz, hn, hok, bw8.t, fun H9 q ys R e9 t9 nq eq rq hRl hR => ?_⟩
        have bw9 := bw8.ext e9 t9
        have hno : ∀ p, p < bs.length → R.getD p [] = [] := fun p hp => by
          cases hz : R.getD p [] with
          | nil => rfl
          | cons k ks =>
            obtain ⟨hk1, r', hr'⟩ := (hR p hp k).mp (by rw [hz]; exact List.mem_cons_self)
            exact absurd hc ((unfix hp hk1 hr').no_crowd tl x y)
        have hyl : ys.length = bs.length := by rw [Paired.length rq, hRl]
        refine ⟨q, rfl, ⟨_, SqL.of eq⟩, fun D nD => ?_⟩
        refine lc_it (walk_list (xs := ys)) (fun j H' => Acc H9 D ((List.replicate j false).map V.bl) H') (Acc.start nD) (fun j H' _ ac => SqL.of (ac.s _ _ eq)) ?_ ?_
        · rintro j yy Ho H10 hj ac ⟨rfl, hy⟩
          obtain ⟨hj2, u, rfl, eu⟩ := rq.get hy
          have he : R[j] = [] := by
            have := hno j (by omega)
            rw [List.getD_eq_getElem?_getD, List.getElem?_eq_getElem hj2] at this
            exact this
          rw [he] at eu
          refine ⟨rfl, iteT (B := Acc H9 D ((List.replicate (j + 1) false).map V.bl) H10) ?_⟩
          refine iteT ⟨_, rfl, by show 0 ≤ sizeLine; decide, fun t nt => ?_⟩
          have st := Same.up (o := .tup []) nt
          have ac2 := ac.same st
          refine ⟨.tuple (([] : List (Int × Int)).map prP), .tuple (([] : List (Int × Int)).map prP), prT_dp K (st _ _ (ac.s _ _ eu)) .nil, prT_dp K upd_same .nil, prT_shaped [], prT_shaped [], _, ac2.a, by rw [List.length_map, List.length_replicate, sizeLine_eq]; omega, ?_⟩
          rw [refl_of (prT_shaped []), List.replicate_succ', List.map_append]
          exact ac2.push
        · intro H10 ac
          exact ⟨D, List.replicate ys.length false, rfl, SqL.of ac.a, false, congrArg V.bl (by simp), iteF ⟨rfl, bw9.same ac.s⟩⟩
    rintro σ' H9 ⟨rfl, bw9⟩
    rcases id bw9.f with ⟨f, af, ft⟩ | ⟨l, g, x, y, ⟨dx, t0, a0, e0⟩, tl, hc⟩
    case inr => exact ⟨_, rfl, _, _, .ref A.CC, .ref A.CF, false, rfl, .own A.CF, .base (.ins a0 T.cTC T.kaC T.knC T.ktkC T.kmC), T.kiF_CC, _, rfl, iteF ⟨k3, _, _, _, _, _, _, _, _, _, _, _, rfl, bw9.dr, bw9.t, by omega⟩⟩
    obtain ⟨dx, t0, a0, e0⟩ := id af
    refine ⟨_, rfl, _, _, .ref A.CF, .ref A.CF, true, rfl, .own A.CF, .base (.ins a0 T.cTF T.kaF T.knF T.ktkF T.kmF), (by unfold PySem.W.kitOne; rw [if_pos (by simp)]), _, rfl, iteT ?_⟩
    have hadd : ∀ {H' : Hp}, ExtN H9 H' → AtF A.CF H' p (natB (hpL f bs.length)) := fun e => af.ext e
    have hcrd : ∀ q, q < bs.length → bA ps q ≤ (f q : Int) ∧ (f q : Int) ≤ bB ps q := fun q hq => ⟨ft.low htd q q (Nat.le_refl _) hq, ft.high htd _ q (Nat.le_refl _) hq⟩
    refine ⟨fun σ' H' => σ' = [some (.ref a), some (.ref d), some (.int ((0 : Int) + (i : Nat))), some (.int w1), some (.int bs.length), some (.ref r), some (.ref p), some (.ref m), x8, x9, x10, x11, x12] ∧ Bw K A d a r p m ns w1 k3 bs ps H' ∧ ExtN H9 H', ?_, ?_⟩
    · refine ⟨_, rfl, p, A.CF, dx, _, _, rfl, a0, T.cTF, T.fRow, fdF_row _, _, rfl, t0, w1, natB (hpL f bs.length), rfl, hw, (perm_row ft.perm hn e0).1, fun H10 s10 => ?_⟩
      rw [show lheap (natB (hpL f bs.length)) w1 = true from (lheap_iff hw (by rw [hpB_len]; exact hn)).mpr ft.rise]
      have bw10 := bw9.same s10
      obtain ⟨us, em, hm⟩ := bw10.m
      refine ⟨true, rfl, iteF ?_⟩
      refine ⟨_, rfl, p, A.CF, dx, _, _, rfl, s10 _ _ a0, T.cTF, T.fRow, fdF_row _, _, rfl, t0, m, us, ps, natB (hpL f bs.length), rfl, s10 _ _ e0, em, hm, by rw [hpB_len, hpl], by omega, fun q hq => ?_, fun H11 s11 => ⟨true, rfl, iteF ⟨rfl, bw10.same s11, extN_of (s10.trans s11)⟩⟩⟩
      rw [hpB_at (by omega)]
      exact hcrd q (by omega)
    rintro σ' H10 ⟨rfl, bw10, e10⟩
    refine ⟨fun σ' H' => σ' = [some (.ref a), some (.ref d), some (.int ((0 : Int) + (i : Nat))), some (.int w1), some (.int bs.length), some (.ref r), some (.ref p), some (.ref m), x8, x9, x10, x11, x12] ∧ Bw K A d a r p m ns w1 k3 bs ps H' ∧ ExtN H9 H', ?_, ?_⟩
    · obtain ⟨us, em, hm⟩ := bw10.m
      have hul := Paired.length hm
      refine ⟨_, rfl, m, rfl, ⟨_, SqL.of em⟩, fun D nD => ?_⟩
      refine lc_it (walk_list (xs := us)) (fun j H' => AccQ H10 D ((ps.take j).map (clipP bs.length)) H') ⟨Same.up nD, nD, [], upd_same, .nil⟩ (fun j H' _ ac => SqL.of (ac.s _ _ em)) ?_ ?_
      · rintro j y Ho H11 hj ac ⟨rfl, hy⟩
        obtain ⟨x, ex, u, rfl, eu⟩ := prs_get (hm.same ac.s) hy
        obtain ⟨hj2, rfl⟩ := List.getElem?_eq_some_iff.mp ex
        rw [List.take_succ_eq_append_getElem hj2, List.map_append]
        refine ⟨rfl, iteT (B := AccQ H10 D ((ps.take j).map (clipP bs.length) ++ [ps[j]].map (clipP bs.length)) H11) ?_⟩
        refine ⟨_, rfl, u, _, _, _, rfl, rfl, SqT.of eu, rfl, _, _, rfl, _, rfl, _, _, rfl, rfl, _, rfl, u, _, _, _, rfl, rfl, SqT.of eu, rfl, _, _, rfl, by show 2 ≤ sizeLine; decide, fun t nt => ?_⟩
        exact (ac.same (Same.up nt)).push ⟨t, rfl, upd_same⟩ (by rw [List.length_map, List.length_take, sizeLine_eq]; omega)
      · intro H11 ac
        rw [hul, List.take_length] at ac
        obtain ⟨zs, ez, hz⟩ := ac.a
        have bw11 := bw10.same ac.s
        refine ⟨_, rfl, rfl, rfl, D, w1, zs, ps.map (clipP bs.length), rfl, hw, ez, hz, by rw [List.length_map]; omega, clip_ok hpl ft hcrd, bw11.t, fun H12 b e12 t12 hb => ?_⟩
        obtain rfl : b = true := hb.mpr ⟨f, clip_fit hpl ft hcrd⟩
        exact ⟨true, rfl, iteF ⟨rfl, bw11.ext e12 t12, e10.trans ((extN_of ac.s).trans e12)⟩⟩
    rintro σ' H11 ⟨rfl, bw11, e11⟩
    refine ⟨fun σ' H' => ∃ sp : Nat, σ' = [some (.ref a), some (.ref d), some (.int ((0 : Int) + (i : Nat))), some (.int w1), some (.int bs.length), some (.ref r), some (.ref p), some (.ref m), some (.int sp), x9, x10, x11, x12] ∧ Bw K A d a r p m ns w1 (k3 + 1) bs ps H' ∧ AtF A.CF H' p (natB (hpL f bs.length)) ∧ sp < bs.length, ?_, ?_⟩
    · refine ⟨_, rfl, _, rfl, d, a, ns, k3, bs.length, rfl, bw11.dr, by omega, by omega, fun H12 sp b12 dr12 hsp => ?_⟩
      exact ⟨sp, rfl, bw11.draw b12 dr12 hn7, (af.ext e11).but b12 bw11.dr.l, hsp⟩
    rintro σ' H12 ⟨sp, rfl, bw12, af12, hsp⟩
    refine ⟨fun σ' H' => ∃ q9 : Addr, σ' = [some (.ref a), some (.ref d), some (.int ((0 : Int) + (i : Nat))), some (.int w1), some (.int bs.length), some (.ref r), some (.ref p), some (.ref m), some (.int sp), some (.ref q9), x10, x11, x12] ∧ (Bw K A d a r p m ns w1 (k3 + 1) bs ps H' ∧ AtF A.CF H' p (natB (hpL f bs.length))) ∧ ∃ ys, H' q9 = some (.lst ys) ∧ PrsAt H' ys (bs.set sp (0, (bs.length : Int) - 1)), ?_, ?_⟩
    · obtain ⟨zs, ez, hz⟩ := bw12.r
      have hzl := Paired.length hz
      refine ⟨_, rfl, ?_⟩
      unfold tNoPart
      refine ⟨_, rfl, _, rfl, ?_⟩
      refine ⟨r, zs, rfl, SqL.of ez, fun p1 np1 => ?_⟩
      have e1 : upd H12 p1 (.lst (cutV zs none (some ((sp : Nat) : Int)))) p1 = _ := upd_same
      have s1 := Same.up (o := .lst (cutV zs none (some ((sp : Nat) : Int)))) np1
      generalize upd H12 p1 (.lst (cutV zs none (some ((sp : Nat) : Int)))) = G1 at e1 s1
      refine ⟨_, rfl, _, _, rfl, rfl, by show 2 ≤ sizeLine; decide, fun t nt => ?_⟩
      have st := Same.up (o := .tup [V.int 0, V.int ((bs.length : Int) - 1)]) nt
      have ett : upd G1 t (.tup [V.int 0, V.int ((bs.length : Int) - 1)]) t = some (.tup [V.int 0, V.int ((bs.length : Int) - 1)]) := upd_same
      generalize upd G1 t (.tup [V.int 0, V.int ((bs.length : Int) - 1)]) = G2 at st ett
      refine ⟨by show 1 ≤ sizeLine; decide, fun l nl => ?_⟩
      have sl := Same.up (o := .lst [V.ref t]) nl
      have el : upd G2 l (.lst [V.ref t]) l = some (.lst [V.ref t]) := upd_same
      generalize upd G2 l (.lst [V.ref t]) = G3 at sl el
      have hc1 : (cutV zs none (some ((sp : Nat) : Int))).length ≤ 12 := by
        rw [cut_to, List.length_take]
        omega
      have hc2 : (cutV zs (some (((sp : Nat) : Int) + 1)) none).length ≤ 12 := by
        rw [show ((sp : Nat) : Int) + 1 = ((sp + 1 : Nat) : Int) by omega, cut_from, List.length_drop]
        omega
      refine ⟨p1, l, _, _, rfl, rfl, sl _ _ (st _ _ e1), el, by rw [List.length_singleton, sizeLine_eq]; omega, fun p2 np2 => ?_⟩
      have s2 := Same.up (o := .lst (cutV zs none (some ((sp : Nat) : Int)) ++ [V.ref t])) np2
      have e2 : upd G3 p2 (.lst (cutV zs none (some ((sp : Nat) : Int)) ++ [V.ref t])) p2 = _ := upd_same
      generalize upd G3 p2 (.lst (cutV zs none (some ((sp : Nat) : Int)) ++ [V.ref t])) = G4 at s2 e2
      have s04 := s1.trans (st.trans (sl.trans s2))
      refine ⟨_, rfl, _, rfl, _, _, rfl, rfl, _, rfl, ?_⟩
      refine ⟨r, zs, rfl, SqL.of (s04 _ _ ez), fun p3 np3 => ?_⟩
      have s3 := Same.up (o := .lst (cutV zs (some (((sp : Nat) : Int) + 1)) none)) np3
      have e3 : upd G4 p3 (.lst (cutV zs (some (((sp : Nat) : Int) + 1)) none)) p3 = _ := upd_same
      generalize upd G4 p3 (.lst (cutV zs (some (((sp : Nat) : Int) + 1)) none)) = G5 at s3 e3
      refine ⟨p2, p3, _, _, rfl, rfl, s3 _ _ e2, e3, by rw [List.length_append, List.length_singleton, sizeLine_eq]; omega, fun p4 np4 => ?_⟩
      rw [set_cuts zs _ (by omega)]
      have s4 := Same.up (o := .lst (zs.set sp (V.ref t))) np4
      have e4' : upd G5 p4 (.lst (zs.set sp (V.ref t))) p4 = _ := upd_same
      generalize upd G5 p4 (.lst (zs.set sp (V.ref t))) = G6 at s4 e4'
      have s06 := s04.trans (s3.trans s4)
      have ett6 := s4 _ _ (s3 _ _ (s2 _ _ (sl _ _ ett)))
      exact ⟨p4, rfl, ⟨bw12.same s06, af12.same s06⟩, _, e4', prs_set (hz.same s06) ⟨t, rfl, ett6⟩⟩
    rintro σ' H13 ⟨q9, rfl, ⟨bw13, af13⟩, ys9, e9, h9⟩
    refine ⟨fun σ' H' => ∃ q10 : Addr, σ' = [some (.ref a), some (.ref d), some (.int ((0 : Int) + (i : Nat))), some (.int w1), some (.int bs.length), some (.ref r), some (.ref p), some (.ref m), some (.int sp), some (.ref q9), some (.ref q10), x11, x12] ∧ (Bw K A d a r p m ns w1 (k3 + 1) bs ps H' ∧ AtF A.CF H' p (natB (hpL f bs.length))) ∧ (∃ ys, H' q9 = some (.lst ys) ∧ PrsAt H' ys (bs.set sp (0, (bs.length : Int) - 1))) ∧ ∃ ys, H' q10 = some (.lst ys) ∧ PrsAt H' ys (fixB bs sp (f sp)), ?_, ?_⟩
    · obtain ⟨zs, ez, hz⟩ := bw13.r
      have hzl := Paired.length hz
      obtain ⟨dx, t0, a0, e0⟩ := id af13
      refine ⟨_, rfl, ?_⟩
      unfold tNoPart
      refine ⟨_, rfl, _, rfl, ?_⟩
      refine ⟨r, zs, rfl, SqL.of ez, fun p1 np1 => ?_⟩
      have e1 : upd H13 p1 (.lst (cutV zs none (some ((sp : Nat) : Int)))) p1 = _ := upd_same
      have s1 := Same.up (o := .lst (cutV zs none (some ((sp : Nat) : Int)))) np1
      generalize upd H13 p1 (.lst (cutV zs none (some ((sp : Nat) : Int)))) = G1 at e1 s1
      have hkk := key_at (ks := natB (hpL f bs.length)) (p := sp) (by rw [hpB_len]; exact hsp)
      rw [hpB_at hsp] at hkk
      refine ⟨_, rfl, p, A.CF, dx, _, _, rfl, s1 _ _ a0, T.cTF, T.fRow, fdF_row _, _, rfl, t0, _, _, _, rfl, rfl, SqT.of (s1 _ _ e0), hkk, ?_⟩
      refine ⟨_, rfl, p, A.CF, dx, _, _, rfl, s1 _ _ a0, T.cTF, T.fRow, fdF_row _, _, rfl, t0, _, _, _, rfl, rfl, SqT.of (s1 _ _ e0), hkk, by show 2 ≤ sizeLine; decide, fun t nt => ?_⟩
      have st := Same.up (o := .tup [V.int ((f sp : Nat) : Int), V.int ((f sp : Nat) : Int)]) nt
      have ett : upd G1 t (.tup [V.int ((f sp : Nat) : Int), V.int ((f sp : Nat) : Int)]) t = some (.tup [V.int ((f sp : Nat) : Int), V.int ((f sp : Nat) : Int)]) := upd_same
      generalize upd G1 t (.tup [V.int ((f sp : Nat) : Int), V.int ((f sp : Nat) : Int)]) = G2 at st ett
      refine ⟨by show 1 ≤ sizeLine; decide, fun l nl => ?_⟩
      have sl := Same.up (o := .lst [V.ref t]) nl
      have el : upd G2 l (.lst [V.ref t]) l = some (.lst [V.ref t]) := upd_same
      generalize upd G2 l (.lst [V.ref t]) = G3 at sl el
      have hc1 : (cutV zs none (some ((sp : Nat) : Int))).length ≤ 12 := by
        rw [cut_to, List.length_take]
        omega
      have hc2 : (cutV zs (some (((sp : Nat) : Int) + 1)) none).length ≤ 12 := by
        rw [show ((sp : Nat) : Int) + 1 = ((sp + 1 : Nat) : Int) by omega, cut_from, List.length_drop]
        omega
      refine ⟨p1, l, _, _, rfl, rfl, sl _ _ (st _ _ e1), el, by rw [List.length_singleton, sizeLine_eq]; omega, fun p2 np2 => ?_⟩
      have s2 := Same.up (o := .lst (cutV zs none (some ((sp : Nat) : Int)) ++ [V.ref t])) np2
      have e2 : upd G3 p2 (.lst (cutV zs none (some ((sp : Nat) : Int)) ++ [V.ref t])) p2 = _ := upd_same
      generalize upd G3 p2 (.lst (cutV zs none (some ((sp : Nat) : Int)) ++ [V.ref t])) = G4 at s2 e2
      have s04 := s1.trans (st.trans (sl.trans s2))
      refine ⟨_, rfl, _, rfl, _, _, rfl, rfl, _, rfl, ?_⟩
      refine ⟨r, zs, rfl, SqL.of (s04 _ _ ez), fun p3 np3 => ?_⟩
      have s3 := Same.up (o := .lst (cutV zs (some (((sp : Nat) : Int) + 1)) none)) np3
      have e3 : upd G4 p3 (.lst (cutV zs (some (((sp : Nat) : Int) + 1)) none)) p3 = _ := upd_same
      generalize upd G4 p3 (.lst (cutV zs (some (((sp : Nat) : Int) + 1)) none)) = G5 at s3 e3
      refine ⟨p2, p3, _, _, rfl, rfl, s3 _ _ e2, e3, by rw [List.length_append, List.length_singleton, sizeLine_eq]; omega, fun p4 np4 => ?_⟩
      rw [set_cuts zs _ (by omega)]
      have s4 := Same.up (o := .lst (zs.set sp (V.ref t))) np4
      have e4' : upd G5 p4 (.lst (zs.set sp (V.ref t))) p4 = _ := upd_same
      generalize upd G5 p4 (.lst (zs.set sp (V.ref t))) = G6 at s4 e4'
      have s06 := s04.trans (s3.trans s4)
      have ett6 := s4 _ _ (s3 _ _ (s2 _ _ (sl _ _ ett)))
      exact ⟨p4, rfl, ⟨bw13.same s06, af13.same s06⟩, ⟨ys9, s06 _ _ e9, h9.same s06⟩, _, e4', prs_set (hz.same s06) ⟨t, rfl, ett6⟩⟩
    rintro σ' H14 ⟨q10, rfl, ⟨bw14, af14⟩, ⟨ys9, e9, h9⟩, ys10, e10', h10⟩
    refine ⟨fun σ' H' => σ' = [some (.ref a), some (.ref d), some (.int ((0 : Int) + (i : Nat))), some (.int w1), some (.int bs.length), some (.ref r), some (.ref p), some (.ref m), some (.int sp), some (.ref q9), some (.ref q10), x11, x12] ∧ Bw K A d a r p m ns w1 (k3 + 1) bs ps H' ∧ AtF A.CF H' p (natB (hpL f bs.length)), ?_, ?_⟩
    · refine ⟨_, rfl, _, rfl, rfl, rfl, q9, w1, ys9, bs.set sp (0, (bs.length : Int) - 1), rfl, hw, e9, h9, by rw [List.length_set]; exact hn, loose_ok hok, bw14.t, fun H15 b e15 t15 hb => ?_⟩
      obtain rfl : b = true := hb.mpr ⟨f, loose_fit ft⟩
      refine ⟨true, rfl, iteF ?_⟩
      refine ⟨_, rfl, _, rfl, rfl, rfl, q10, w1, ys10, fixB bs sp (f sp), rfl, hw, e15 _ _ e10' (fun _ z => nomatch z), prs_ext h10 e15, by rw [List.length_set]; exact hn, fix_ok hsp hok (by have := ft.lt sp hsp; omega), t15, fun H16 b e16 t16 hb => ?_⟩
      obtain rfl : b = true := hb.mpr ⟨f, fix_fit hsp ft⟩
      exact ⟨true, rfl, iteF ⟨rfl, bw14.ext (e15.trans e16) t16, af14.ext (e15.trans e16)⟩⟩
    rintro σ' H15 ⟨rfl, bw15, af15⟩
    obtain ⟨dx, t0, a0, e0⟩ := id af15
    obtain ⟨zs, ez, hz⟩ := bw15.r
    refine ⟨_, rfl, p, A.CF, dx, _, _, rfl, a0, T.cTF, T.fRow, fdF_row _, _, rfl, t0, _, _, _, rfl, rfl, SqT.of e0, key_at (by rw [hpB_len]; exact hsp), ?_⟩
    rw [hpB_at hsp]
    refine ⟨_, rfl, _, rfl, rfl, rfl, r, w1, zs, bs, rfl, hw, ez, hz, hn, hok, bw15.t, fun H16 q ys R e16 t16 nq eq rq hRl hR => ?_⟩
    have hyl : ys.length = bs.length := by rw [Paired.length rq, hRl]
    have hys : sp < ys.length := by omega
    obtain ⟨hs2, u, eu, eu2⟩ := rq.get (List.getElem?_eq_getElem hys)
    have hat : atI ys ((sp : Nat) : Int) = some (.ref u) := by
      unfold atI
      rw [ixN_nat hys, ← eu]
      exact List.getElem?_eq_getElem hys
    have hmem : (f sp : Int) ∈ R[sp] := by
      have h1 := hR sp hsp (f sp)
      rw [List.getD_eq_getElem?_getD, List.getElem?_eq_getElem hs2] at h1
      exact h1.mpr ⟨ft.inn sp hsp, f, fix_fit hsp ft⟩
    refine ⟨_, rfl, q, _, _, _, rfl, rfl, SqL.of eq, hat, ?_⟩
    refine ⟨u, _, rfl, .inr (SqT.of eu2), rfl, int_flat _, ?_⟩
    rw [if_pos rfl, inV_int, decide_eq_true hmem]
    exact ⟨false, rfl, iteF ⟨k3 + 1, _, _, _, _, _, _, _, _, _, _, _, rfl, bw15.dr.ext e16, t16, by omega⟩⟩

end
end Tw

set_option Elab.async false
set_option linter.all false
set_option maxRecDepth 100000
set_option maxHeartbeats 2000000
namespace Tw
open PySem PySem.Spec PyProof.Rows L2
theorem kit_no {K : PySem.W.Frag} {C : Addr} {t : String} (hc : PySem.W.isClsIn K C = true) (ht : PySem.W.typeIn K (.ref C) = some (.type "type")) (hs : PySem.W.subIn K (.type t) (.ref C) = some false) : PySem.W.kitOne K (.type t) (.ref C) = some false := by
  unfold PySem.W.kitOne PySem.W.kitCls
  have h1 : (PySem.W.clsIn K C).isSome = true := hc
  simp only [h1, ht, hs, beq_self_eq_true, Bool.and_self, if_true]
  rfl
theorem kit_no2 {K : PySem.W.Frag} {C D : Addr} (hc : PySem.W.isClsIn K C = true) (ht : PySem.W.typeIn K (.ref C) = some (.type "type")) (hs : PySem.W.subIn K (.ref D) (.ref C) = some false) (hn : (D == C) = false) : PySem.W.kitOne K (.ref D) (.ref C) = some false := by
  unfold PySem.W.kitOne PySem.W.kitCls
  have h1 : (PySem.W.clsIn K C).isSome = true := hc
  have h2 : (Value.ref D == Value.ref C) = false := beq_eq_false_iff_ne.mpr fun z => by
    injection z with z
    exact (beq_eq_false_iff_ne.mp hn) z
  rw [h2, if_neg Bool.false_ne_true]
  simp only [h1, ht, hs, beq_self_eq_true, Bool.and_self, if_true]
theorem all_mk {l : PySem.W.OpenLaw} {w : World} {K : PySem.W.Frag} {h : Heap} {mg : Str → Option Value} (X : K.In h) (G : h.Ns mainGlobals mg) {fa C CF CC po D_t___init__ D_t_of D_is_heap D_faults D_f_shows D_c_shows D_fit D_can_fit D_told_bounds D_ranks_within f_is_integer f_is_integer_from f_is_key f_check_arms f_check_many f_check_place f_row_of f_is_full f_t___init__ f_t_of f_t___len__ f_t___contains__ f_t___iter__ f_t___getitem__ f_t_parent f_is_heap f_faults f_is_full_heap f_f___init__ f_f_shows f_c___init__ f_c_shows f_fit f_can_fit f_told_bounds f_ranks_within f_check_bounds f_is_pair_of_ranks f_is_within f_places_inside f_is_crowd f_most_urgent_first f_can_have f__law_number f__law_take f__law_pick f__law_parent f__law_way f__law_subtree f__law_arms f__law_order f__law_is_heap f__law_heap f__law_pairs f__law_near_pairs f__law_must f__law_fits f_law : Addr} {cc_most_urgent_first PP_most_urgent_first : Addr} {od_is_integer an_is_integer : Option Addr} {sl_is_integer : Array (Option Value)} {oc_is_integer kV_is_integer dc_is_integer pm_is_integer cd_is_integer ct_is_integer : Value} {od_is_integer_from an_is_integer_from : Option Addr} {sl_is_integer_from : Array (Option Value)} {oc_is_integer_from kV_is_integer_from dc_is_integer_from pm_is_integer_from cd_is_integer_from ct_is_integer_from : Value} {od_is_key an_is_key : Option Addr} {sl_is_key : Array (Option Value)} {oc_is_key kV_is_key dc_is_key pm_is_key cd_is_key ct_is_key : Value} {od_check_arms an_check_arms : Option Addr} {sl_check_arms : Array (Option Value)} {oc_check_arms kV_check_arms dc_check_arms pm_check_arms cd_check_arms ct_check_arms : Value} {od_check_many an_check_many : Option Addr} {sl_check_many : Array (Option Value)} {oc_check_many kV_check_many dc_check_many pm_check_many cd_check_many ct_check_many : Value} {od_check_place an_check_place : Option Addr} {sl_check_place : Array (Option Value)} {oc_check_place kV_check_place dc_check_place pm_check_place cd_check_place ct_check_place : Value} {od_row_of an_row_of : Option Addr} {sl_row_of : Array (Option Value)} {oc_row_of kV_row_of dc_row_of pm_row_of cd_row_of ct_row_of : Value} {od_is_full an_is_full : Option Addr} {sl_is_full : Array (Option Value)} {oc_is_full kV_is_full dc_is_full pm_is_full cd_is_full ct_is_full : Value} {od_t___init__ an_t___init__ : Option Addr} {sl_t___init__ : Array (Option Value)} {oc_t___init__  dc_t___init__ pm_t___init__ cd_t___init__ ct_t___init__ : Value} {od_t_of an_t_of : Option Addr} {sl_t_of : Array (Option Value)} {oc_t_of  dc_t_of pm_t_of cd_t_of ct_t_of : Value} {od_t___len__ an_t___len__ : Option Addr} {sl_t___len__ : Array (Option Value)} {oc_t___len__ kV_t___len__ dc_t___len__ pm_t___len__ cd_t___len__ ct_t___len__ : Value} {od_t___contains__ an_t___contains__ : Option Addr} {sl_t___contains__ : Array (Option Value)} {oc_t___contains__ kV_t___contains__ dc_t___contains__ pm_t___contains__ cd_t___contains__ ct_t___contains__ : Value} {od_t___iter__ an_t___iter__ : Option Addr} {sl_t___iter__ : Array (Option Value)} {oc_t___iter__ kV_t___iter__ dc_t___iter__ pm_t___iter__ cd_t___iter__ ct_t___iter__ : Value} {od_t___getitem__ an_t___getitem__ : Option Addr} {sl_t___getitem__ : Array (Option Value)} {oc_t___getitem__ kV_t___getitem__ dc_t___getitem__ pm_t___getitem__ cd_t___getitem__ ct_t___getitem__ : Value} {od_t_parent an_t_parent : Option Addr} {sl_t_parent : Array (Option Value)} {oc_t_parent kV_t_parent dc_t_parent pm_t_parent cd_t_parent ct_t_parent : Value} {od_is_heap an_is_heap : Option Addr} {sl_is_heap : Array (Option Value)} {oc_is_heap  dc_is_heap pm_is_heap cd_is_heap ct_is_heap : Value} {od_faults an_faults : Option Addr} {sl_faults : Array (Option Value)} {oc_faults  dc_faults pm_faults cd_faults ct_faults : Value} {od_is_full_heap an_is_full_heap : Option Addr} {sl_is_full_heap : Array (Option Value)} {oc_is_full_heap kV_is_full_heap dc_is_full_heap pm_is_full_heap cd_is_full_heap ct_is_full_heap : Value} {od_f___init__ an_f___init__ : Option Addr} {sl_f___init__ : Array (Option Value)} {oc_f___init__ kV_f___init__ dc_f___init__ pm_f___init__ cd_f___init__ ct_f___init__ : Value} {od_f_shows an_f_shows : Option Addr} {sl_f_shows : Array (Option Value)} {oc_f_shows  dc_f_shows pm_f_shows cd_f_shows ct_f_shows : Value} {od_c___init__ an_c___init__ : Option Addr} {sl_c___init__ : Array (Option Value)} {oc_c___init__ kV_c___init__ dc_c___init__ pm_c___init__ cd_c___init__ ct_c___init__ : Value} {od_c_shows an_c_shows : Option Addr} {sl_c_shows : Array (Option Value)} {oc_c_shows  dc_c_shows pm_c_shows cd_c_shows ct_c_shows : Value} {od_fit an_fit : Option Addr} {sl_fit : Array (Option Value)} {oc_fit  dc_fit pm_fit cd_fit ct_fit : Value} {od_can_fit an_can_fit : Option Addr} {sl_can_fit : Array (Option Value)} {oc_can_fit  dc_can_fit pm_can_fit cd_can_fit ct_can_fit : Value} {od_told_bounds an_told_bounds : Option Addr} {sl_told_bounds : Array (Option Value)} {oc_told_bounds  dc_told_bounds pm_told_bounds cd_told_bounds ct_told_bounds : Value} {od_ranks_within an_ranks_within : Option Addr} {sl_ranks_within : Array (Option Value)} {oc_ranks_within  dc_ranks_within pm_ranks_within cd_ranks_within ct_ranks_within : Value} {od_check_bounds an_check_bounds : Option Addr} {sl_check_bounds : Array (Option Value)} {oc_check_bounds kV_check_bounds dc_check_bounds pm_check_bounds cd_check_bounds ct_check_bounds : Value} {od_is_pair_of_ranks an_is_pair_of_ranks : Option Addr} {sl_is_pair_of_ranks : Array (Option Value)} {oc_is_pair_of_ranks kV_is_pair_of_ranks dc_is_pair_of_ranks pm_is_pair_of_ranks cd_is_pair_of_ranks ct_is_pair_of_ranks : Value} {od_is_within an_is_within : Option Addr} {sl_is_within : Array (Option Value)} {oc_is_within kV_is_within dc_is_within pm_is_within cd_is_within ct_is_within : Value} {od_places_inside an_places_inside : Option Addr} {sl_places_inside : Array (Option Value)} {oc_places_inside kV_places_inside dc_places_inside pm_places_inside cd_places_inside ct_places_inside : Value} {od_is_crowd an_is_crowd : Option Addr} {sl_is_crowd : Array (Option Value)} {oc_is_crowd kV_is_crowd dc_is_crowd pm_is_crowd cd_is_crowd ct_is_crowd : Value} {od_most_urgent_first an_most_urgent_first : Option Addr} {sl_most_urgent_first : Array (Option Value)} {oc_most_urgent_first kV_most_urgent_first dc_most_urgent_first pm_most_urgent_first  ct_most_urgent_first : Value} {od_can_have an_can_have : Option Addr} {sl_can_have : Array (Option Value)} {oc_can_have kV_can_have dc_can_have pm_can_have cd_can_have ct_can_have : Value} {od__law_number an__law_number : Option Addr} {sl__law_number : Array (Option Value)} {oc__law_number kV__law_number dc__law_number pm__law_number cd__law_number ct__law_number : Value} {od__law_take an__law_take : Option Addr} {sl__law_take : Array (Option Value)} {oc__law_take kV__law_take dc__law_take pm__law_take cd__law_take ct__law_take : Value} {od__law_pick an__law_pick : Option Addr} {sl__law_pick : Array (Option Value)} {oc__law_pick kV__law_pick dc__law_pick pm__law_pick cd__law_pick ct__law_pick : Value} {od__law_parent an__law_parent : Option Addr} {sl__law_parent : Array (Option Value)} {oc__law_parent kV__law_parent dc__law_parent pm__law_parent cd__law_parent ct__law_parent : Value} {od__law_way an__law_way : Option Addr} {sl__law_way : Array (Option Value)} {oc__law_way kV__law_way dc__law_way pm__law_way cd__law_way ct__law_way : Value} {od__law_subtree an__law_subtree : Option Addr} {sl__law_subtree : Array (Option Value)} {oc__law_subtree kV__law_subtree dc__law_subtree pm__law_subtree cd__law_subtree ct__law_subtree : Value} {od__law_arms an__law_arms : Option Addr} {sl__law_arms : Array (Option Value)} {oc__law_arms kV__law_arms dc__law_arms pm__law_arms cd__law_arms ct__law_arms : Value} {od__law_order an__law_order : Option Addr} {sl__law_order : Array (Option Value)} {oc__law_order kV__law_order dc__law_order pm__law_order cd__law_order ct__law_order : Value} {od__law_is_heap an__law_is_heap : Option Addr} {sl__law_is_heap : Array (Option Value)} {oc__law_is_heap kV__law_is_heap dc__law_is_heap pm__law_is_heap cd__law_is_heap ct__law_is_heap : Value} {od__law_heap an__law_heap : Option Addr} {sl__law_heap : Array (Option Value)} {oc__law_heap kV__law_heap dc__law_heap pm__law_heap cd__law_heap ct__law_heap : Value} {od__law_pairs an__law_pairs : Option Addr} {sl__law_pairs : Array (Option Value)} {oc__law_pairs kV__law_pairs dc__law_pairs pm__law_pairs cd__law_pairs ct__law_pairs : Value} {od__law_near_pairs an__law_near_pairs : Option Addr} {sl__law_near_pairs : Array (Option Value)} {oc__law_near_pairs kV__law_near_pairs dc__law_near_pairs pm__law_near_pairs cd__law_near_pairs ct__law_near_pairs : Value} {od__law_must an__law_must : Option Addr} {sl__law_must : Array (Option Value)} {oc__law_must kV__law_must dc__law_must pm__law_must cd__law_must ct__law_must : Value} {od__law_fits an__law_fits : Option Addr} {sl__law_fits : Array (Option Value)} {oc__law_fits kV__law_fits dc__law_fits pm__law_fits cd__law_fits ct__law_fits : Value} {od_law an_law : Option Addr} {sl_law : Array (Option Value)} {oc_law kV_law dc_law pm_law cd_law ct_law : Value}
    (hfa : mg "law" = some (.ref fa))
    (aC : PySem.W.nsIn K mainGlobals "Tree" = some (some (.ref C)))
    (aCF : PySem.W.nsIn K mainGlobals "Fitted" = some (some (.ref CF)))
    (aCC : PySem.W.nsIn K mainGlobals "Crowded" = some (some (.ref CC)))
    (a_is_integer : PySem.W.nsIn K mainGlobals "is_integer" = some (some (.ref f_is_integer)))
    (l_is_integer : K.lookup f_is_integer = some ⟨oc_is_integer, od_is_integer, .func (PySem.W.fnOf "is_integer" "is_integer" (defArgs s_is_integer) (defBody s_is_integer) (defScope s_is_integer) .none kV_is_integer dc_is_integer pm_is_integer an_is_integer cd_is_integer ct_is_integer), sl_is_integer⟩)
    (c_is_integer : PySem.W.codeIn K cd_is_integer "is_integer" = true)
    (k_is_integer : PySem.W.keepIn K (.ref f_is_integer) = true)
    (a_is_integer_from : PySem.W.nsIn K mainGlobals "is_integer_from" = some (some (.ref f_is_integer_from)))
    (l_is_integer_from : K.lookup f_is_integer_from = some ⟨oc_is_integer_from, od_is_integer_from, .func (PySem.W.fnOf "is_integer_from" "is_integer_from" (defArgs s_is_integer_from) (defBody s_is_integer_from) (defScope s_is_integer_from) .none kV_is_integer_from dc_is_integer_from pm_is_integer_from an_is_integer_from cd_is_integer_from ct_is_integer_from), sl_is_integer_from⟩)
    (c_is_integer_from : PySem.W.codeIn K cd_is_integer_from "is_integer_from" = true)
    (k_is_integer_from : PySem.W.keepIn K (.ref f_is_integer_from) = true)
    (a_is_key : PySem.W.nsIn K mainGlobals "is_key" = some (some (.ref f_is_key)))
    (l_is_key : K.lookup f_is_key = some ⟨oc_is_key, od_is_key, .func (PySem.W.fnOf "is_key" "is_key" (defArgs s_is_key) (defBody s_is_key) (defScope s_is_key) .none kV_is_key dc_is_key pm_is_key an_is_key cd_is_key ct_is_key), sl_is_key⟩)
    (c_is_key : PySem.W.codeIn K cd_is_key "is_key" = true)
    (k_is_key : PySem.W.keepIn K (.ref f_is_key) = true)
    (a_check_arms : PySem.W.nsIn K mainGlobals "check_arms" = some (some (.ref f_check_arms)))
    (l_check_arms : K.lookup f_check_arms = some ⟨oc_check_arms, od_check_arms, .func (PySem.W.fnOf "check_arms" "check_arms" (defArgs s_check_arms) (defBody s_check_arms) (defScope s_check_arms) .none kV_check_arms dc_check_arms pm_check_arms an_check_arms cd_check_arms ct_check_arms), sl_check_arms⟩)
    (c_check_arms : PySem.W.codeIn K cd_check_arms "check_arms" = true)
    (k_check_arms : PySem.W.keepIn K (.ref f_check_arms) = true)
    (a_check_many : PySem.W.nsIn K mainGlobals "check_many" = some (some (.ref f_check_many)))
    (l_check_many : K.lookup f_check_many = some ⟨oc_check_many, od_check_many, .func (PySem.W.fnOf "check_many" "check_many" (defArgs s_check_many) (defBody s_check_many) (defScope s_check_many) .none kV_check_many dc_check_many pm_check_many an_check_many cd_check_many ct_check_many), sl_check_many⟩)
    (c_check_many : PySem.W.codeIn K cd_check_many "check_many" = true)
    (k_check_many : PySem.W.keepIn K (.ref f_check_many) = true)
    (a_check_place : PySem.W.nsIn K mainGlobals "check_place" = some (some (.ref f_check_place)))
    (l_check_place : K.lookup f_check_place = some ⟨oc_check_place, od_check_place, .func (PySem.W.fnOf "check_place" "check_place" (defArgs s_check_place) (defBody s_check_place) (defScope s_check_place) .none kV_check_place dc_check_place pm_check_place an_check_place cd_check_place ct_check_place), sl_check_place⟩)
    (c_check_place : PySem.W.codeIn K cd_check_place "check_place" = true)
    (k_check_place : PySem.W.keepIn K (.ref f_check_place) = true)
    (a_row_of : PySem.W.nsIn K mainGlobals "row_of" = some (some (.ref f_row_of)))
    (l_row_of : K.lookup f_row_of = some ⟨oc_row_of, od_row_of, .func (PySem.W.fnOf "row_of" "row_of" (defArgs s_row_of) (defBody s_row_of) (defScope s_row_of) .none kV_row_of dc_row_of pm_row_of an_row_of cd_row_of ct_row_of), sl_row_of⟩)
    (c_row_of : PySem.W.codeIn K cd_row_of "row_of" = true)
    (k_row_of : PySem.W.keepIn K (.ref f_row_of) = true)
    (a_is_full : PySem.W.nsIn K mainGlobals "is_full" = some (some (.ref f_is_full)))
    (l_is_full : K.lookup f_is_full = some ⟨oc_is_full, od_is_full, .func (PySem.W.fnOf "is_full" "is_full" (defArgs s_is_full) (defBody s_is_full) (defScope s_is_full) .none kV_is_full dc_is_full pm_is_full an_is_full cd_is_full ct_is_full), sl_is_full⟩)
    (c_is_full : PySem.W.codeIn K cd_is_full "is_full" = true)
    (k_is_full : PySem.W.keepIn K (.ref f_is_full) = true)
    (a_t___init__ : PySem.W.findIn K (.ref C) "__init__" = some (some (.ref f_t___init__)))
    (i_t___init__ : PySem.W.isFn K (.ref f_t___init__) = true)
    (l_t___init__ : K.lookup f_t___init__ = some ⟨oc_t___init__, od_t___init__, .func (PySem.W.fnOf "__init__" "Tree.__init__" (defArgs s_t___init__) (defBody s_t___init__) (defScope s_t___init__) .none (.ref D_t___init__) dc_t___init__ pm_t___init__ an_t___init__ cd_t___init__ ct_t___init__), sl_t___init__⟩)
    (c_t___init__ : PySem.W.codeIn K cd_t___init__ "Tree.__init__" = true)
    (k_t___init__ : PySem.W.keepIn K (.ref f_t___init__) = true)
    {tk_t___init__ : Tok}
    (w_t___init__ : PySem.W.nsIn K D_t___init__ "arms" = some (some (.int 2 tk_t___init__)))
    (a_t_of : PySem.W.findCls K (.ref C) (.type "type") "of" = some (.get (.builtin "classmethod.__get__") (.ref po) .none (.ref C)))
    {rest_of : List Value}
    (r_t_of : PySem.W.recIn K po "classmethod" = some (.ref f_t_of :: rest_of))
    (n_t_of : PySem.W.fnIn K f_t_of = true)
    (l_t_of : K.lookup f_t_of = some ⟨oc_t_of, od_t_of, .func (PySem.W.fnOf "of" "Tree.of" (defArgs s_t_of) (defBody s_t_of) (defScope s_t_of) .none (.ref D_t_of) dc_t_of pm_t_of an_t_of cd_t_of ct_t_of), sl_t_of⟩)
    (c_t_of : PySem.W.codeIn K cd_t_of "Tree.of" = true)
    (k_t_of : PySem.W.keepIn K (.ref f_t_of) = true)
    {tk_t_of : Tok}
    (w_t_of : PySem.W.nsIn K D_t_of "arms" = some (some (.int 2 tk_t_of)))
    (a_t___len__ : PySem.W.findIn K (.ref C) "__len__" = some (some (.ref f_t___len__)))
    (i_t___len__ : PySem.W.isFn K (.ref f_t___len__) = true)
    (n_t___len__ : PySem.W.fnIn K f_t___len__ = true)
    (l_t___len__ : K.lookup f_t___len__ = some ⟨oc_t___len__, od_t___len__, .func (PySem.W.fnOf "__len__" "Tree.__len__" (defArgs s_t___len__) (defBody s_t___len__) (defScope s_t___len__) .none kV_t___len__ dc_t___len__ pm_t___len__ an_t___len__ cd_t___len__ ct_t___len__), sl_t___len__⟩)
    (c_t___len__ : PySem.W.codeIn K cd_t___len__ "Tree.__len__" = true)
    (k_t___len__ : PySem.W.keepIn K (.ref f_t___len__) = true)
    (a_t___contains__ : PySem.W.findIn K (.ref C) "__contains__" = some (some (.ref f_t___contains__)))
    (i_t___contains__ : PySem.W.isFn K (.ref f_t___contains__) = true)
    (n_t___contains__ : PySem.W.fnIn K f_t___contains__ = true)
    (l_t___contains__ : K.lookup f_t___contains__ = some ⟨oc_t___contains__, od_t___contains__, .func (PySem.W.fnOf "__contains__" "Tree.__contains__" (defArgs s_t___contains__) (defBody s_t___contains__) (defScope s_t___contains__) .none kV_t___contains__ dc_t___contains__ pm_t___contains__ an_t___contains__ cd_t___contains__ ct_t___contains__), sl_t___contains__⟩)
    (c_t___contains__ : PySem.W.codeIn K cd_t___contains__ "Tree.__contains__" = true)
    (k_t___contains__ : PySem.W.keepIn K (.ref f_t___contains__) = true)
    (a_t___iter__ : PySem.W.findIn K (.ref C) "__iter__" = some (some (.ref f_t___iter__)))
    (i_t___iter__ : PySem.W.isFn K (.ref f_t___iter__) = true)
    (n_t___iter__ : PySem.W.fnIn K f_t___iter__ = true)
    (l_t___iter__ : K.lookup f_t___iter__ = some ⟨oc_t___iter__, od_t___iter__, .func (PySem.W.fnOf "__iter__" "Tree.__iter__" (defArgs s_t___iter__) (defBody s_t___iter__) (defScope s_t___iter__) .none kV_t___iter__ dc_t___iter__ pm_t___iter__ an_t___iter__ cd_t___iter__ ct_t___iter__), sl_t___iter__⟩)
    (c_t___iter__ : PySem.W.codeIn K cd_t___iter__ "Tree.__iter__" = true)
    (k_t___iter__ : PySem.W.keepIn K (.ref f_t___iter__) = true)
    (a_t___getitem__ : PySem.W.findIn K (.ref C) "__getitem__" = some (some (.ref f_t___getitem__)))
    (i_t___getitem__ : PySem.W.isFn K (.ref f_t___getitem__) = true)
    (n_t___getitem__ : PySem.W.fnIn K f_t___getitem__ = true)
    (l_t___getitem__ : K.lookup f_t___getitem__ = some ⟨oc_t___getitem__, od_t___getitem__, .func (PySem.W.fnOf "__getitem__" "Tree.__getitem__" (defArgs s_t___getitem__) (defBody s_t___getitem__) (defScope s_t___getitem__) .none kV_t___getitem__ dc_t___getitem__ pm_t___getitem__ an_t___getitem__ cd_t___getitem__ ct_t___getitem__), sl_t___getitem__⟩)
    (c_t___getitem__ : PySem.W.codeIn K cd_t___getitem__ "Tree.__getitem__" = true)
    (k_t___getitem__ : PySem.W.keepIn K (.ref f_t___getitem__) = true)
    (a_t_parent : PySem.W.findIn K (.ref C) "parent" = some (some (.ref f_t_parent)))
    (i_t_parent : PySem.W.isFn K (.ref f_t_parent) = true)
    (l_t_parent : K.lookup f_t_parent = some ⟨oc_t_parent, od_t_parent, .func (PySem.W.fnOf "parent" "Tree.parent" (defArgs s_t_parent) (defBody s_t_parent) (defScope s_t_parent) .none kV_t_parent dc_t_parent pm_t_parent an_t_parent cd_t_parent ct_t_parent), sl_t_parent⟩)
    (c_t_parent : PySem.W.codeIn K cd_t_parent "Tree.parent" = true)
    (k_t_parent : PySem.W.keepIn K (.ref f_t_parent) = true)
    (a_is_heap : PySem.W.nsIn K mainGlobals "is_heap" = some (some (.ref f_is_heap)))
    (l_is_heap : K.lookup f_is_heap = some ⟨oc_is_heap, od_is_heap, .func (PySem.W.fnOf "is_heap" "is_heap" (defArgs s_is_heap) (defBody s_is_heap) (defScope s_is_heap) .none (.ref D_is_heap) dc_is_heap pm_is_heap an_is_heap cd_is_heap ct_is_heap), sl_is_heap⟩)
    (c_is_heap : PySem.W.codeIn K cd_is_heap "is_heap" = true)
    (k_is_heap : PySem.W.keepIn K (.ref f_is_heap) = true)
    {tk_is_heap : Tok}
    (w_is_heap : PySem.W.nsIn K D_is_heap "arms" = some (some (.int 2 tk_is_heap)))
    (a_faults : PySem.W.nsIn K mainGlobals "faults" = some (some (.ref f_faults)))
    (l_faults : K.lookup f_faults = some ⟨oc_faults, od_faults, .func (PySem.W.fnOf "faults" "faults" (defArgs s_faults) (defBody s_faults) (defScope s_faults) .none (.ref D_faults) dc_faults pm_faults an_faults cd_faults ct_faults), sl_faults⟩)
    (c_faults : PySem.W.codeIn K cd_faults "faults" = true)
    (k_faults : PySem.W.keepIn K (.ref f_faults) = true)
    {tk_faults : Tok}
    (w_faults : PySem.W.nsIn K D_faults "arms" = some (some (.int 2 tk_faults)))
    (a_is_full_heap : PySem.W.nsIn K mainGlobals "is_full_heap" = some (some (.ref f_is_full_heap)))
    (l_is_full_heap : K.lookup f_is_full_heap = some ⟨oc_is_full_heap, od_is_full_heap, .func (PySem.W.fnOf "is_full_heap" "is_full_heap" (defArgs s_is_full_heap) (defBody s_is_full_heap) (defScope s_is_full_heap) .none kV_is_full_heap dc_is_full_heap pm_is_full_heap an_is_full_heap cd_is_full_heap ct_is_full_heap), sl_is_full_heap⟩)
    (c_is_full_heap : PySem.W.codeIn K cd_is_full_heap "is_full_heap" = true)
    (k_is_full_heap : PySem.W.keepIn K (.ref f_is_full_heap) = true)
    (a_f___init__ : PySem.W.findIn K (.ref CF) "__init__" = some (some (.ref f_f___init__)))
    (i_f___init__ : PySem.W.isFn K (.ref f_f___init__) = true)
    (l_f___init__ : K.lookup f_f___init__ = some ⟨oc_f___init__, od_f___init__, .func (PySem.W.fnOf "__init__" "Fitted.__init__" (defArgs s_f___init__) (defBody s_f___init__) (defScope s_f___init__) .none kV_f___init__ dc_f___init__ pm_f___init__ an_f___init__ cd_f___init__ ct_f___init__), sl_f___init__⟩)
    (c_f___init__ : PySem.W.codeIn K cd_f___init__ "Fitted.__init__" = true)
    (k_f___init__ : PySem.W.keepIn K (.ref f_f___init__) = true)
    (a_f_shows : PySem.W.findIn K (.ref CF) "shows" = some (some (.ref f_f_shows)))
    (i_f_shows : PySem.W.isFn K (.ref f_f_shows) = true)
    (l_f_shows : K.lookup f_f_shows = some ⟨oc_f_shows, od_f_shows, .func (PySem.W.fnOf "shows" "Fitted.shows" (defArgs s_f_shows) (defBody s_f_shows) (defScope s_f_shows) .none (.ref D_f_shows) dc_f_shows pm_f_shows an_f_shows cd_f_shows ct_f_shows), sl_f_shows⟩)
    (c_f_shows : PySem.W.codeIn K cd_f_shows "Fitted.shows" = true)
    (k_f_shows : PySem.W.keepIn K (.ref f_f_shows) = true)
    {tk_f_shows : Tok}
    (w_f_shows : PySem.W.nsIn K D_f_shows "arms" = some (some (.int 2 tk_f_shows)))
    (a_c___init__ : PySem.W.findIn K (.ref CC) "__init__" = some (some (.ref f_c___init__)))
    (i_c___init__ : PySem.W.isFn K (.ref f_c___init__) = true)
    (l_c___init__ : K.lookup f_c___init__ = some ⟨oc_c___init__, od_c___init__, .func (PySem.W.fnOf "__init__" "Crowded.__init__" (defArgs s_c___init__) (defBody s_c___init__) (defScope s_c___init__) .none kV_c___init__ dc_c___init__ pm_c___init__ an_c___init__ cd_c___init__ ct_c___init__), sl_c___init__⟩)
    (c_c___init__ : PySem.W.codeIn K cd_c___init__ "Crowded.__init__" = true)
    (k_c___init__ : PySem.W.keepIn K (.ref f_c___init__) = true)
    (a_c_shows : PySem.W.findIn K (.ref CC) "shows" = some (some (.ref f_c_shows)))
    (i_c_shows : PySem.W.isFn K (.ref f_c_shows) = true)
    (l_c_shows : K.lookup f_c_shows = some ⟨oc_c_shows, od_c_shows, .func (PySem.W.fnOf "shows" "Crowded.shows" (defArgs s_c_shows) (defBody s_c_shows) (defScope s_c_shows) .none (.ref D_c_shows) dc_c_shows pm_c_shows an_c_shows cd_c_shows ct_c_shows), sl_c_shows⟩)
    (c_c_shows : PySem.W.codeIn K cd_c_shows "Crowded.shows" = true)
    (k_c_shows : PySem.W.keepIn K (.ref f_c_shows) = true)
    {tk_c_shows : Tok}
    (w_c_shows : PySem.W.nsIn K D_c_shows "arms" = some (some (.int 2 tk_c_shows)))
    (a_fit : PySem.W.nsIn K mainGlobals "fit" = some (some (.ref f_fit)))
    (l_fit : K.lookup f_fit = some ⟨oc_fit, od_fit, .func (PySem.W.fnOf "fit" "fit" (defArgs s_fit) (defBody s_fit) (defScope s_fit) .none (.ref D_fit) dc_fit pm_fit an_fit cd_fit ct_fit), sl_fit⟩)
    (c_fit : PySem.W.codeIn K cd_fit "fit" = true)
    (k_fit : PySem.W.keepIn K (.ref f_fit) = true)
    {tk_fit : Tok}
    (w_fit : PySem.W.nsIn K D_fit "arms" = some (some (.int 2 tk_fit)))
    (a_can_fit : PySem.W.nsIn K mainGlobals "can_fit" = some (some (.ref f_can_fit)))
    (l_can_fit : K.lookup f_can_fit = some ⟨oc_can_fit, od_can_fit, .func (PySem.W.fnOf "can_fit" "can_fit" (defArgs s_can_fit) (defBody s_can_fit) (defScope s_can_fit) .none (.ref D_can_fit) dc_can_fit pm_can_fit an_can_fit cd_can_fit ct_can_fit), sl_can_fit⟩)
    (c_can_fit : PySem.W.codeIn K cd_can_fit "can_fit" = true)
    (k_can_fit : PySem.W.keepIn K (.ref f_can_fit) = true)
    {tk_can_fit : Tok}
    (w_can_fit : PySem.W.nsIn K D_can_fit "arms" = some (some (.int 2 tk_can_fit)))
    (a_told_bounds : PySem.W.nsIn K mainGlobals "told_bounds" = some (some (.ref f_told_bounds)))
    (l_told_bounds : K.lookup f_told_bounds = some ⟨oc_told_bounds, od_told_bounds, .func (PySem.W.fnOf "told_bounds" "told_bounds" (defArgs s_told_bounds) (defBody s_told_bounds) (defScope s_told_bounds) .none (.ref D_told_bounds) dc_told_bounds pm_told_bounds an_told_bounds cd_told_bounds ct_told_bounds), sl_told_bounds⟩)
    (c_told_bounds : PySem.W.codeIn K cd_told_bounds "told_bounds" = true)
    (k_told_bounds : PySem.W.keepIn K (.ref f_told_bounds) = true)
    {tk_told_bounds : Tok}
    (w_told_bounds : PySem.W.nsIn K D_told_bounds "arms" = some (some (.int 2 tk_told_bounds)))
    (a_ranks_within : PySem.W.nsIn K mainGlobals "ranks_within" = some (some (.ref f_ranks_within)))
    (l_ranks_within : K.lookup f_ranks_within = some ⟨oc_ranks_within, od_ranks_within, .func (PySem.W.fnOf "ranks_within" "ranks_within" (defArgs s_ranks_within) (defBody s_ranks_within) (defScope s_ranks_within) .none (.ref D_ranks_within) dc_ranks_within pm_ranks_within an_ranks_within cd_ranks_within ct_ranks_within), sl_ranks_within⟩)
    (c_ranks_within : PySem.W.codeIn K cd_ranks_within "ranks_within" = true)
    (k_ranks_within : PySem.W.keepIn K (.ref f_ranks_within) = true)
    {tk_ranks_within : Tok}
    (w_ranks_within : PySem.W.nsIn K D_ranks_within "arms" = some (some (.int 2 tk_ranks_within)))
    (a_check_bounds : PySem.W.nsIn K mainGlobals "check_bounds" = some (some (.ref f_check_bounds)))
    (l_check_bounds : K.lookup f_check_bounds = some ⟨oc_check_bounds, od_check_bounds, .func (PySem.W.fnOf "check_bounds" "check_bounds" (defArgs s_check_bounds) (defBody s_check_bounds) (defScope s_check_bounds) .none kV_check_bounds dc_check_bounds pm_check_bounds an_check_bounds cd_check_bounds ct_check_bounds), sl_check_bounds⟩)
    (c_check_bounds : PySem.W.codeIn K cd_check_bounds "check_bounds" = true)
    (k_check_bounds : PySem.W.keepIn K (.ref f_check_bounds) = true)
    (a_is_pair_of_ranks : PySem.W.nsIn K mainGlobals "is_pair_of_ranks" = some (some (.ref f_is_pair_of_ranks)))
    (l_is_pair_of_ranks : K.lookup f_is_pair_of_ranks = some ⟨oc_is_pair_of_ranks, od_is_pair_of_ranks, .func (PySem.W.fnOf "is_pair_of_ranks" "is_pair_of_ranks" (defArgs s_is_pair_of_ranks) (defBody s_is_pair_of_ranks) (defScope s_is_pair_of_ranks) .none kV_is_pair_of_ranks dc_is_pair_of_ranks pm_is_pair_of_ranks an_is_pair_of_ranks cd_is_pair_of_ranks ct_is_pair_of_ranks), sl_is_pair_of_ranks⟩)
    (c_is_pair_of_ranks : PySem.W.codeIn K cd_is_pair_of_ranks "is_pair_of_ranks" = true)
    (k_is_pair_of_ranks : PySem.W.keepIn K (.ref f_is_pair_of_ranks) = true)
    (a_is_within : PySem.W.nsIn K mainGlobals "is_within" = some (some (.ref f_is_within)))
    (l_is_within : K.lookup f_is_within = some ⟨oc_is_within, od_is_within, .func (PySem.W.fnOf "is_within" "is_within" (defArgs s_is_within) (defBody s_is_within) (defScope s_is_within) .none kV_is_within dc_is_within pm_is_within an_is_within cd_is_within ct_is_within), sl_is_within⟩)
    (c_is_within : PySem.W.codeIn K cd_is_within "is_within" = true)
    (k_is_within : PySem.W.keepIn K (.ref f_is_within) = true)
    (a_places_inside : PySem.W.nsIn K mainGlobals "places_inside" = some (some (.ref f_places_inside)))
    (l_places_inside : K.lookup f_places_inside = some ⟨oc_places_inside, od_places_inside, .func (PySem.W.fnOf "places_inside" "places_inside" (defArgs s_places_inside) (defBody s_places_inside) (defScope s_places_inside) .none kV_places_inside dc_places_inside pm_places_inside an_places_inside cd_places_inside ct_places_inside), sl_places_inside⟩)
    (c_places_inside : PySem.W.codeIn K cd_places_inside "places_inside" = true)
    (k_places_inside : PySem.W.keepIn K (.ref f_places_inside) = true)
    (a_is_crowd : PySem.W.nsIn K mainGlobals "is_crowd" = some (some (.ref f_is_crowd)))
    (l_is_crowd : K.lookup f_is_crowd = some ⟨oc_is_crowd, od_is_crowd, .func (PySem.W.fnOf "is_crowd" "is_crowd" (defArgs s_is_crowd) (defBody s_is_crowd) (defScope s_is_crowd) .none kV_is_crowd dc_is_crowd pm_is_crowd an_is_crowd cd_is_crowd ct_is_crowd), sl_is_crowd⟩)
    (c_is_crowd : PySem.W.codeIn K cd_is_crowd "is_crowd" = true)
    (k_is_crowd : PySem.W.keepIn K (.ref f_is_crowd) = true)
    (a_most_urgent_first : PySem.W.nsIn K mainGlobals "most_urgent_first" = some (some (.ref f_most_urgent_first)))
    (l_most_urgent_first : K.lookup f_most_urgent_first = some ⟨oc_most_urgent_first, od_most_urgent_first, .func (PySem.W.fnOf "most_urgent_first" "most_urgent_first" (defArgs s_most_urgent_first) (defBody s_most_urgent_first) (defScope s_most_urgent_first) .none kV_most_urgent_first dc_most_urgent_first pm_most_urgent_first an_most_urgent_first (.ref cc_most_urgent_first) ct_most_urgent_first), sl_most_urgent_first⟩)
    (c_most_urgent_first : PySem.W.codeIn K (.ref cc_most_urgent_first) "most_urgent_first" = true)
    (k_most_urgent_first : PySem.W.keepIn K (.ref f_most_urgent_first) = true)
    (a_can_have : PySem.W.nsIn K mainGlobals "can_have" = some (some (.ref f_can_have)))
    (l_can_have : K.lookup f_can_have = some ⟨oc_can_have, od_can_have, .func (PySem.W.fnOf "can_have" "can_have" (defArgs s_can_have) (defBody s_can_have) (defScope s_can_have) .none kV_can_have dc_can_have pm_can_have an_can_have cd_can_have ct_can_have), sl_can_have⟩)
    (c_can_have : PySem.W.codeIn K cd_can_have "can_have" = true)
    (k_can_have : PySem.W.keepIn K (.ref f_can_have) = true)
    (a__law_number : PySem.W.nsIn K mainGlobals "_law_number" = some (some (.ref f__law_number)))
    (l__law_number : K.lookup f__law_number = some ⟨oc__law_number, od__law_number, .func (PySem.W.fnOf "_law_number" "_law_number" (defArgs s__law_number) (defBody s__law_number) (defScope s__law_number) .none kV__law_number dc__law_number pm__law_number an__law_number cd__law_number ct__law_number), sl__law_number⟩)
    (c__law_number : PySem.W.codeIn K cd__law_number "_law_number" = true)
    (k__law_number : PySem.W.keepIn K (.ref f__law_number) = true)
    (a__law_take : PySem.W.nsIn K mainGlobals "_law_take" = some (some (.ref f__law_take)))
    (l__law_take : K.lookup f__law_take = some ⟨oc__law_take, od__law_take, .func (PySem.W.fnOf "_law_take" "_law_take" (defArgs s__law_take) (defBody s__law_take) (defScope s__law_take) .none kV__law_take dc__law_take pm__law_take an__law_take cd__law_take ct__law_take), sl__law_take⟩)
    (c__law_take : PySem.W.codeIn K cd__law_take "_law_take" = true)
    (k__law_take : PySem.W.keepIn K (.ref f__law_take) = true)
    (a__law_pick : PySem.W.nsIn K mainGlobals "_law_pick" = some (some (.ref f__law_pick)))
    (l__law_pick : K.lookup f__law_pick = some ⟨oc__law_pick, od__law_pick, .func (PySem.W.fnOf "_law_pick" "_law_pick" (defArgs s__law_pick) (defBody s__law_pick) (defScope s__law_pick) .none kV__law_pick dc__law_pick pm__law_pick an__law_pick cd__law_pick ct__law_pick), sl__law_pick⟩)
    (c__law_pick : PySem.W.codeIn K cd__law_pick "_law_pick" = true)
    (k__law_pick : PySem.W.keepIn K (.ref f__law_pick) = true)
    (a__law_parent : PySem.W.nsIn K mainGlobals "_law_parent" = some (some (.ref f__law_parent)))
    (l__law_parent : K.lookup f__law_parent = some ⟨oc__law_parent, od__law_parent, .func (PySem.W.fnOf "_law_parent" "_law_parent" (defArgs s__law_parent) (defBody s__law_parent) (defScope s__law_parent) .none kV__law_parent dc__law_parent pm__law_parent an__law_parent cd__law_parent ct__law_parent), sl__law_parent⟩)
    (c__law_parent : PySem.W.codeIn K cd__law_parent "_law_parent" = true)
    (k__law_parent : PySem.W.keepIn K (.ref f__law_parent) = true)
    (a__law_way : PySem.W.nsIn K mainGlobals "_law_way" = some (some (.ref f__law_way)))
    (l__law_way : K.lookup f__law_way = some ⟨oc__law_way, od__law_way, .func (PySem.W.fnOf "_law_way" "_law_way" (defArgs s__law_way) (defBody s__law_way) (defScope s__law_way) .none kV__law_way dc__law_way pm__law_way an__law_way cd__law_way ct__law_way), sl__law_way⟩)
    (c__law_way : PySem.W.codeIn K cd__law_way "_law_way" = true)
    (k__law_way : PySem.W.keepIn K (.ref f__law_way) = true)
    (a__law_subtree : PySem.W.nsIn K mainGlobals "_law_subtree" = some (some (.ref f__law_subtree)))
    (l__law_subtree : K.lookup f__law_subtree = some ⟨oc__law_subtree, od__law_subtree, .func (PySem.W.fnOf "_law_subtree" "_law_subtree" (defArgs s__law_subtree) (defBody s__law_subtree) (defScope s__law_subtree) .none kV__law_subtree dc__law_subtree pm__law_subtree an__law_subtree cd__law_subtree ct__law_subtree), sl__law_subtree⟩)
    (c__law_subtree : PySem.W.codeIn K cd__law_subtree "_law_subtree" = true)
    (k__law_subtree : PySem.W.keepIn K (.ref f__law_subtree) = true)
    (a__law_arms : PySem.W.nsIn K mainGlobals "_law_arms" = some (some (.ref f__law_arms)))
    (l__law_arms : K.lookup f__law_arms = some ⟨oc__law_arms, od__law_arms, .func (PySem.W.fnOf "_law_arms" "_law_arms" (defArgs s__law_arms) (defBody s__law_arms) (defScope s__law_arms) .none kV__law_arms dc__law_arms pm__law_arms an__law_arms cd__law_arms ct__law_arms), sl__law_arms⟩)
    (c__law_arms : PySem.W.codeIn K cd__law_arms "_law_arms" = true)
    (k__law_arms : PySem.W.keepIn K (.ref f__law_arms) = true)
    (a__law_order : PySem.W.nsIn K mainGlobals "_law_order" = some (some (.ref f__law_order)))
    (l__law_order : K.lookup f__law_order = some ⟨oc__law_order, od__law_order, .func (PySem.W.fnOf "_law_order" "_law_order" (defArgs s__law_order) (defBody s__law_order) (defScope s__law_order) .none kV__law_order dc__law_order pm__law_order an__law_order cd__law_order ct__law_order), sl__law_order⟩)
    (c__law_order : PySem.W.codeIn K cd__law_order "_law_order" = true)
    (k__law_order : PySem.W.keepIn K (.ref f__law_order) = true)
    (a__law_is_heap : PySem.W.nsIn K mainGlobals "_law_is_heap" = some (some (.ref f__law_is_heap)))
    (l__law_is_heap : K.lookup f__law_is_heap = some ⟨oc__law_is_heap, od__law_is_heap, .func (PySem.W.fnOf "_law_is_heap" "_law_is_heap" (defArgs s__law_is_heap) (defBody s__law_is_heap) (defScope s__law_is_heap) .none kV__law_is_heap dc__law_is_heap pm__law_is_heap an__law_is_heap cd__law_is_heap ct__law_is_heap), sl__law_is_heap⟩)
    (c__law_is_heap : PySem.W.codeIn K cd__law_is_heap "_law_is_heap" = true)
    (k__law_is_heap : PySem.W.keepIn K (.ref f__law_is_heap) = true)
    (a__law_heap : PySem.W.nsIn K mainGlobals "_law_heap" = some (some (.ref f__law_heap)))
    (l__law_heap : K.lookup f__law_heap = some ⟨oc__law_heap, od__law_heap, .func (PySem.W.fnOf "_law_heap" "_law_heap" (defArgs s__law_heap) (defBody s__law_heap) (defScope s__law_heap) .none kV__law_heap dc__law_heap pm__law_heap an__law_heap cd__law_heap ct__law_heap), sl__law_heap⟩)
    (c__law_heap : PySem.W.codeIn K cd__law_heap "_law_heap" = true)
    (k__law_heap : PySem.W.keepIn K (.ref f__law_heap) = true)
    (a__law_pairs : PySem.W.nsIn K mainGlobals "_law_pairs" = some (some (.ref f__law_pairs)))
    (l__law_pairs : K.lookup f__law_pairs = some ⟨oc__law_pairs, od__law_pairs, .func (PySem.W.fnOf "_law_pairs" "_law_pairs" (defArgs s__law_pairs) (defBody s__law_pairs) (defScope s__law_pairs) .none kV__law_pairs dc__law_pairs pm__law_pairs an__law_pairs cd__law_pairs ct__law_pairs), sl__law_pairs⟩)
    (c__law_pairs : PySem.W.codeIn K cd__law_pairs "_law_pairs" = true)
    (k__law_pairs : PySem.W.keepIn K (.ref f__law_pairs) = true)
    (a__law_near_pairs : PySem.W.nsIn K mainGlobals "_law_near_pairs" = some (some (.ref f__law_near_pairs)))
    (l__law_near_pairs : K.lookup f__law_near_pairs = some ⟨oc__law_near_pairs, od__law_near_pairs, .func (PySem.W.fnOf "_law_near_pairs" "_law_near_pairs" (defArgs s__law_near_pairs) (defBody s__law_near_pairs) (defScope s__law_near_pairs) .none kV__law_near_pairs dc__law_near_pairs pm__law_near_pairs an__law_near_pairs cd__law_near_pairs ct__law_near_pairs), sl__law_near_pairs⟩)
    (c__law_near_pairs : PySem.W.codeIn K cd__law_near_pairs "_law_near_pairs" = true)
    (k__law_near_pairs : PySem.W.keepIn K (.ref f__law_near_pairs) = true)
    (a__law_must : PySem.W.nsIn K mainGlobals "_law_must" = some (some (.ref f__law_must)))
    (l__law_must : K.lookup f__law_must = some ⟨oc__law_must, od__law_must, .func (PySem.W.fnOf "_law_must" "_law_must" (defArgs s__law_must) (defBody s__law_must) (defScope s__law_must) .none kV__law_must dc__law_must pm__law_must an__law_must cd__law_must ct__law_must), sl__law_must⟩)
    (c__law_must : PySem.W.codeIn K cd__law_must "_law_must" = true)
    (k__law_must : PySem.W.keepIn K (.ref f__law_must) = true)
    (a__law_fits : PySem.W.nsIn K mainGlobals "_law_fits" = some (some (.ref f__law_fits)))
    (l__law_fits : K.lookup f__law_fits = some ⟨oc__law_fits, od__law_fits, .func (PySem.W.fnOf "_law_fits" "_law_fits" (defArgs s__law_fits) (defBody s__law_fits) (defScope s__law_fits) .none kV__law_fits dc__law_fits pm__law_fits an__law_fits cd__law_fits ct__law_fits), sl__law_fits⟩)
    (c__law_fits : PySem.W.codeIn K cd__law_fits "_law_fits" = true)
    (k__law_fits : PySem.W.keepIn K (.ref f__law_fits) = true)
    (a_law : PySem.W.nsIn K mainGlobals "law" = some (some (.ref f_law)))
    (l_law : K.lookup f_law = some ⟨oc_law, od_law, .func (PySem.W.fnOf "law" "law" (defArgs s_law) (defBody s_law) (defScope s_law) .none kV_law dc_law pm_law an_law cd_law ct_law), sl_law⟩)
    (c_law : PySem.W.codeIn K cd_law "law" = true)
    (k_law : PySem.W.keepIn K (.ref f_law) = true)
    {tc_GREATEST_KEY : Tok}
    (q_GREATEST_KEY : PySem.W.nsIn K mainGlobals "GREATEST_KEY" = some (some (.int 1000000000 tc_GREATEST_KEY)))
    {tc_MOST_ARMS : Tok}
    (q_MOST_ARMS : PySem.W.nsIn K mainGlobals "MOST_ARMS" = some (some (.int 4 tc_MOST_ARMS)))
    {tc_MOST_PLACES : Tok}
    (q_MOST_PLACES : PySem.W.nsIn K mainGlobals "MOST_PLACES" = some (some (.int 12 tc_MOST_PLACES)))
    (z_all : PySem.W.nsIn K mainGlobals "all" = some none)
    (z_any : PySem.W.nsIn K mainGlobals "any" = some none)
    (z_bool : PySem.W.nsIn K mainGlobals "bool" = some none)
    (z_enumerate : PySem.W.nsIn K mainGlobals "enumerate" = some none)
    (z_int : PySem.W.nsIn K mainGlobals "int" = some none)
    (z_isinstance : PySem.W.nsIn K mainGlobals "isinstance" = some none)
    (z_iter : PySem.W.nsIn K mainGlobals "iter" = some none)
    (z_len : PySem.W.nsIn K mainGlobals "len" = some none)
    (z_list : PySem.W.nsIn K mainGlobals "list" = some none)
    (z_max : PySem.W.nsIn K mainGlobals "max" = some none)
    (z_min : PySem.W.nsIn K mainGlobals "min" = some none)
    (z_range : PySem.W.nsIn K mainGlobals "range" = some none)
    (z_reversed : PySem.W.nsIn K mainGlobals "reversed" = some none)
    (z_set : PySem.W.nsIn K mainGlobals "set" = some none)
    (z_sorted : PySem.W.nsIn K mainGlobals "sorted" = some none)
    (z_sum : PySem.W.nsIn K mainGlobals "sum" = some none)
    (z_tuple : PySem.W.nsIn K mainGlobals "tuple" = some none)
    (z_zip : PySem.W.nsIn K mainGlobals "zip" = some none)
    (pg : PySem.W.plainGet K C Str.empty = true)
    (hd : PySem.W.hasDictIn K C = true)
    (po_ : PySem.W.plainOver K C = true)
    (sa : PySem.W.findIn K (.ref C) "__setattr__" = some (some (.builtin "object.__setattr__")))
    (na_nMany : PySem.W.findIn K (.ref C) "many" = some none)
    (na_nArms : PySem.W.findIn K (.ref C) "arms" = some none)
    (na_nPl : PySem.W.findIn K (.ref C) "_places" = some none)
    (mk : PySem.W.makesIn K C = true)
    (kc : PySem.W.keepIn K (.ref C) = true)
    (rd : PySem.W.readsIn K C (.type "type") = true)
    (ga : PySem.W.specialIn K (.ref C) "__getattribute__" = some (some (.builtin "type.__getattribute__")))
    (pgF : PySem.W.plainGet K CF Str.empty = true)
    (hdF : PySem.W.hasDictIn K CF = true)
    (po_F : PySem.W.plainOver K CF = true)
    (saF : PySem.W.findIn K (.ref CF) "__setattr__" = some (some (.builtin "object.__setattr__")))
    (na_fRow : PySem.W.findIn K (.ref CF) "row" = some none)
    (mkF : PySem.W.makesIn K CF = true)
    (kcF : PySem.W.keepIn K (.ref CF) = true)
    (kaF : PySem.W.findIn K (.ref CF) "__class__" = some (some (.builtin "object.__class__")))
    (knF : PySem.W.specialIn K (.builtin "object.__class__") "__get__" = some (some (.builtin "getset_descriptor.__get__")))
    (ktkF : PySem.W.takesIn K (.builtin "object.__class__") = some true)
    (kmF : PySem.W.mroIn K CF (.type "object") = some true)
    (kclF : PySem.W.isClsIn K CF = true)
    (ktyF : PySem.W.typeIn K (.ref CF) = some (.type "type"))
    (ensF_Crowded : PySem.W.subIn K (.ref CC) (.ref CF) = some false)
    (nesF_Crowded : (CC == CF) = false)
    (pgC : PySem.W.plainGet K CC Str.empty = true)
    (hdC : PySem.W.hasDictIn K CC = true)
    (po_C : PySem.W.plainOver K CC = true)
    (saC : PySem.W.findIn K (.ref CC) "__setattr__" = some (some (.builtin "object.__setattr__")))
    (na_cFirst : PySem.W.findIn K (.ref CC) "first" = some none)
    (na_cLast : PySem.W.findIn K (.ref CC) "last" = some none)
    (na_cPlaces : PySem.W.findIn K (.ref CC) "places" = some none)
    (mkC : PySem.W.makesIn K CC = true)
    (kcC : PySem.W.keepIn K (.ref CC) = true)
    (kaC : PySem.W.findIn K (.ref CC) "__class__" = some (some (.builtin "object.__class__")))
    (knC : PySem.W.specialIn K (.builtin "object.__class__") "__get__" = some (some (.builtin "getset_descriptor.__get__")))
    (ktkC : PySem.W.takesIn K (.builtin "object.__class__") = some true)
    (kmC : PySem.W.mroIn K CC (.type "object") = some true)
    (kclC : PySem.W.isClsIn K CC = true)
    (ktyC : PySem.W.typeIn K (.ref CC) = some (.type "type"))
    (ensC_Fitted : PySem.W.subIn K (.ref CF) (.ref CC) = some false)
    (nesC_Fitted : (CF == CC) = false)
    (hT_most_urgent_first : h.get? PP_most_urgent_first = some (PySem.W.tabObj #[])) (hC_most_urgent_first : PySem.W.codeHdIn K cc_most_urgent_first PP_most_urgent_first = true) (hN_most_urgent_first : K.lookup PP_most_urgent_first = none)
    : LamX.LawAtS l w K CX0 18 63 "script" mg fa h := by
  have e := hfa.symm.trans (PySem.W.mg_of X G a_law)
  cases e
  let A : Ad := { f_is_integer := f_is_integer, d_is_integer := (PySem.W.fnOf "is_integer" "is_integer" (defArgs s_is_integer) (defBody s_is_integer) (defScope s_is_integer) .none kV_is_integer dc_is_integer pm_is_integer an_is_integer cd_is_integer ct_is_integer), f_is_integer_from := f_is_integer_from, d_is_integer_from := (PySem.W.fnOf "is_integer_from" "is_integer_from" (defArgs s_is_integer_from) (defBody s_is_integer_from) (defScope s_is_integer_from) .none kV_is_integer_from dc_is_integer_from pm_is_integer_from an_is_integer_from cd_is_integer_from ct_is_integer_from), f_is_key := f_is_key, d_is_key := (PySem.W.fnOf "is_key" "is_key" (defArgs s_is_key) (defBody s_is_key) (defScope s_is_key) .none kV_is_key dc_is_key pm_is_key an_is_key cd_is_key ct_is_key), f_check_arms := f_check_arms, d_check_arms := (PySem.W.fnOf "check_arms" "check_arms" (defArgs s_check_arms) (defBody s_check_arms) (defScope s_check_arms) .none kV_check_arms dc_check_arms pm_check_arms an_check_arms cd_check_arms ct_check_arms), f_check_many := f_check_many, d_check_many := (PySem.W.fnOf "check_many" "check_many" (defArgs s_check_many) (defBody s_check_many) (defScope s_check_many) .none kV_check_many dc_check_many pm_check_many an_check_many cd_check_many ct_check_many), f_check_place := f_check_place, d_check_place := (PySem.W.fnOf "check_place" "check_place" (defArgs s_check_place) (defBody s_check_place) (defScope s_check_place) .none kV_check_place dc_check_place pm_check_place an_check_place cd_check_place ct_check_place), f_row_of := f_row_of, d_row_of := (PySem.W.fnOf "row_of" "row_of" (defArgs s_row_of) (defBody s_row_of) (defScope s_row_of) .none kV_row_of dc_row_of pm_row_of an_row_of cd_row_of ct_row_of), f_is_full := f_is_full, d_is_full := (PySem.W.fnOf "is_full" "is_full" (defArgs s_is_full) (defBody s_is_full) (defScope s_is_full) .none kV_is_full dc_is_full pm_is_full an_is_full cd_is_full ct_is_full), f_t___init__ := f_t___init__, d_t___init__ := (PySem.W.fnOf "__init__" "Tree.__init__" (defArgs s_t___init__) (defBody s_t___init__) (defScope s_t___init__) .none (.ref D_t___init__) dc_t___init__ pm_t___init__ an_t___init__ cd_t___init__ ct_t___init__), f_t_of := f_t_of, d_t_of := (PySem.W.fnOf "of" "Tree.of" (defArgs s_t_of) (defBody s_t_of) (defScope s_t_of) .none (.ref D_t_of) dc_t_of pm_t_of an_t_of cd_t_of ct_t_of), f_t___len__ := f_t___len__, d_t___len__ := (PySem.W.fnOf "__len__" "Tree.__len__" (defArgs s_t___len__) (defBody s_t___len__) (defScope s_t___len__) .none kV_t___len__ dc_t___len__ pm_t___len__ an_t___len__ cd_t___len__ ct_t___len__), f_t___contains__ := f_t___contains__, d_t___contains__ := (PySem.W.fnOf "__contains__" "Tree.__contains__" (defArgs s_t___contains__) (defBody s_t___contains__) (defScope s_t___contains__) .none kV_t___contains__ dc_t___contains__ pm_t___contains__ an_t___contains__ cd_t___contains__ ct_t___contains__), f_t___iter__ := f_t___iter__, d_t___iter__ := (PySem.W.fnOf "__iter__" "Tree.__iter__" (defArgs s_t___iter__) (defBody s_t___iter__) (defScope s_t___iter__) .none kV_t___iter__ dc_t___iter__ pm_t___iter__ an_t___iter__ cd_t___iter__ ct_t___iter__), f_t___getitem__ := f_t___getitem__, d_t___getitem__ := (PySem.W.fnOf "__getitem__" "Tree.__getitem__" (defArgs s_t___getitem__) (defBody s_t___getitem__) (defScope s_t___getitem__) .none kV_t___getitem__ dc_t___getitem__ pm_t___getitem__ an_t___getitem__ cd_t___getitem__ ct_t___getitem__), f_t_parent := f_t_parent, d_t_parent := (PySem.W.fnOf "parent" "Tree.parent" (defArgs s_t_parent) (defBody s_t_parent) (defScope s_t_parent) .none kV_t_parent dc_t_parent pm_t_parent an_t_parent cd_t_parent ct_t_parent), f_is_heap := f_is_heap, d_is_heap := (PySem.W.fnOf "is_heap" "is_heap" (defArgs s_is_heap) (defBody s_is_heap) (defScope s_is_heap) .none (.ref D_is_heap) dc_is_heap pm_is_heap an_is_heap cd_is_heap ct_is_heap), f_faults := f_faults, d_faults := (PySem.W.fnOf "faults" "faults" (defArgs s_faults) (defBody s_faults) (defScope s_faults) .none (.ref D_faults) dc_faults pm_faults an_faults cd_faults ct_faults), f_is_full_heap := f_is_full_heap, d_is_full_heap := (PySem.W.fnOf "is_full_heap" "is_full_heap" (defArgs s_is_full_heap) (defBody s_is_full_heap) (defScope s_is_full_heap) .none kV_is_full_heap dc_is_full_heap pm_is_full_heap an_is_full_heap cd_is_full_heap ct_is_full_heap), f_f___init__ := f_f___init__, d_f___init__ := (PySem.W.fnOf "__init__" "Fitted.__init__" (defArgs s_f___init__) (defBody s_f___init__) (defScope s_f___init__) .none kV_f___init__ dc_f___init__ pm_f___init__ an_f___init__ cd_f___init__ ct_f___init__), f_f_shows := f_f_shows, d_f_shows := (PySem.W.fnOf "shows" "Fitted.shows" (defArgs s_f_shows) (defBody s_f_shows) (defScope s_f_shows) .none (.ref D_f_shows) dc_f_shows pm_f_shows an_f_shows cd_f_shows ct_f_shows), f_c___init__ := f_c___init__, d_c___init__ := (PySem.W.fnOf "__init__" "Crowded.__init__" (defArgs s_c___init__) (defBody s_c___init__) (defScope s_c___init__) .none kV_c___init__ dc_c___init__ pm_c___init__ an_c___init__ cd_c___init__ ct_c___init__), f_c_shows := f_c_shows, d_c_shows := (PySem.W.fnOf "shows" "Crowded.shows" (defArgs s_c_shows) (defBody s_c_shows) (defScope s_c_shows) .none (.ref D_c_shows) dc_c_shows pm_c_shows an_c_shows cd_c_shows ct_c_shows), f_fit := f_fit, d_fit := (PySem.W.fnOf "fit" "fit" (defArgs s_fit) (defBody s_fit) (defScope s_fit) .none (.ref D_fit) dc_fit pm_fit an_fit cd_fit ct_fit), f_can_fit := f_can_fit, d_can_fit := (PySem.W.fnOf "can_fit" "can_fit" (defArgs s_can_fit) (defBody s_can_fit) (defScope s_can_fit) .none (.ref D_can_fit) dc_can_fit pm_can_fit an_can_fit cd_can_fit ct_can_fit), f_told_bounds := f_told_bounds, d_told_bounds := (PySem.W.fnOf "told_bounds" "told_bounds" (defArgs s_told_bounds) (defBody s_told_bounds) (defScope s_told_bounds) .none (.ref D_told_bounds) dc_told_bounds pm_told_bounds an_told_bounds cd_told_bounds ct_told_bounds), f_ranks_within := f_ranks_within, d_ranks_within := (PySem.W.fnOf "ranks_within" "ranks_within" (defArgs s_ranks_within) (defBody s_ranks_within) (defScope s_ranks_within) .none (.ref D_ranks_within) dc_ranks_within pm_ranks_within an_ranks_within cd_ranks_within ct_ranks_within), f_check_bounds := f_check_bounds, d_check_bounds := (PySem.W.fnOf "check_bounds" "check_bounds" (defArgs s_check_bounds) (defBody s_check_bounds) (defScope s_check_bounds) .none kV_check_bounds dc_check_bounds pm_check_bounds an_check_bounds cd_check_bounds ct_check_bounds), f_is_pair_of_ranks := f_is_pair_of_ranks, d_is_pair_of_ranks := (PySem.W.fnOf "is_pair_of_ranks" "is_pair_of_ranks" (defArgs s_is_pair_of_ranks) (defBody s_is_pair_of_ranks) (defScope s_is_pair_of_ranks) .none kV_is_pair_of_ranks dc_is_pair_of_ranks pm_is_pair_of_ranks an_is_pair_of_ranks cd_is_pair_of_ranks ct_is_pair_of_ranks), f_is_within := f_is_within, d_is_within := (PySem.W.fnOf "is_within" "is_within" (defArgs s_is_within) (defBody s_is_within) (defScope s_is_within) .none kV_is_within dc_is_within pm_is_within an_is_within cd_is_within ct_is_within), f_places_inside := f_places_inside, d_places_inside := (PySem.W.fnOf "places_inside" "places_inside" (defArgs s_places_inside) (defBody s_places_inside) (defScope s_places_inside) .none kV_places_inside dc_places_inside pm_places_inside an_places_inside cd_places_inside ct_places_inside), f_is_crowd := f_is_crowd, d_is_crowd := (PySem.W.fnOf "is_crowd" "is_crowd" (defArgs s_is_crowd) (defBody s_is_crowd) (defScope s_is_crowd) .none kV_is_crowd dc_is_crowd pm_is_crowd an_is_crowd cd_is_crowd ct_is_crowd), f_most_urgent_first := f_most_urgent_first, d_most_urgent_first := (PySem.W.fnOf "most_urgent_first" "most_urgent_first" (defArgs s_most_urgent_first) (defBody s_most_urgent_first) (defScope s_most_urgent_first) .none kV_most_urgent_first dc_most_urgent_first pm_most_urgent_first an_most_urgent_first (.ref cc_most_urgent_first) ct_most_urgent_first), f_can_have := f_can_have, d_can_have := (PySem.W.fnOf "can_have" "can_have" (defArgs s_can_have) (defBody s_can_have) (defScope s_can_have) .none kV_can_have dc_can_have pm_can_have an_can_have cd_can_have ct_can_have), f__law_number := f__law_number, d__law_number := (PySem.W.fnOf "_law_number" "_law_number" (defArgs s__law_number) (defBody s__law_number) (defScope s__law_number) .none kV__law_number dc__law_number pm__law_number an__law_number cd__law_number ct__law_number), f__law_take := f__law_take, d__law_take := (PySem.W.fnOf "_law_take" "_law_take" (defArgs s__law_take) (defBody s__law_take) (defScope s__law_take) .none kV__law_take dc__law_take pm__law_take an__law_take cd__law_take ct__law_take), f__law_pick := f__law_pick, d__law_pick := (PySem.W.fnOf "_law_pick" "_law_pick" (defArgs s__law_pick) (defBody s__law_pick) (defScope s__law_pick) .none kV__law_pick dc__law_pick pm__law_pick an__law_pick cd__law_pick ct__law_pick), f__law_parent := f__law_parent, d__law_parent := (PySem.W.fnOf "_law_parent" "_law_parent" (defArgs s__law_parent) (defBody s__law_parent) (defScope s__law_parent) .none kV__law_parent dc__law_parent pm__law_parent an__law_parent cd__law_parent ct__law_parent), f__law_way := f__law_way, d__law_way := (PySem.W.fnOf "_law_way" "_law_way" (defArgs s__law_way) (defBody s__law_way) (defScope s__law_way) .none kV__law_way dc__law_way pm__law_way an__law_way cd__law_way ct__law_way), f__law_subtree := f__law_subtree, d__law_subtree := (PySem.W.fnOf "_law_subtree" "_law_subtree" (defArgs s__law_subtree) (defBody s__law_subtree) (defScope s__law_subtree) .none kV__law_subtree dc__law_subtree pm__law_subtree an__law_subtree cd__law_subtree ct__law_subtree), f__law_arms := f__law_arms, d__law_arms := (PySem.W.fnOf "_law_arms" "_law_arms" (defArgs s__law_arms) (defBody s__law_arms) (defScope s__law_arms) .none kV__law_arms dc__law_arms pm__law_arms an__law_arms cd__law_arms ct__law_arms), f__law_order := f__law_order, d__law_order := (PySem.W.fnOf "_law_order" "_law_order" (defArgs s__law_order) (defBody s__law_order) (defScope s__law_order) .none kV__law_order dc__law_order pm__law_order an__law_order cd__law_order ct__law_order), f__law_is_heap := f__law_is_heap, d__law_is_heap := (PySem.W.fnOf "_law_is_heap" "_law_is_heap" (defArgs s__law_is_heap) (defBody s__law_is_heap) (defScope s__law_is_heap) .none kV__law_is_heap dc__law_is_heap pm__law_is_heap an__law_is_heap cd__law_is_heap ct__law_is_heap), f__law_heap := f__law_heap, d__law_heap := (PySem.W.fnOf "_law_heap" "_law_heap" (defArgs s__law_heap) (defBody s__law_heap) (defScope s__law_heap) .none kV__law_heap dc__law_heap pm__law_heap an__law_heap cd__law_heap ct__law_heap), f__law_pairs := f__law_pairs, d__law_pairs := (PySem.W.fnOf "_law_pairs" "_law_pairs" (defArgs s__law_pairs) (defBody s__law_pairs) (defScope s__law_pairs) .none kV__law_pairs dc__law_pairs pm__law_pairs an__law_pairs cd__law_pairs ct__law_pairs), f__law_near_pairs := f__law_near_pairs, d__law_near_pairs := (PySem.W.fnOf "_law_near_pairs" "_law_near_pairs" (defArgs s__law_near_pairs) (defBody s__law_near_pairs) (defScope s__law_near_pairs) .none kV__law_near_pairs dc__law_near_pairs pm__law_near_pairs an__law_near_pairs cd__law_near_pairs ct__law_near_pairs), f__law_must := f__law_must, d__law_must := (PySem.W.fnOf "_law_must" "_law_must" (defArgs s__law_must) (defBody s__law_must) (defScope s__law_must) .none kV__law_must dc__law_must pm__law_must an__law_must cd__law_must ct__law_must), f__law_fits := f__law_fits, d__law_fits := (PySem.W.fnOf "_law_fits" "_law_fits" (defArgs s__law_fits) (defBody s__law_fits) (defScope s__law_fits) .none kV__law_fits dc__law_fits pm__law_fits an__law_fits cd__law_fits ct__law_fits), f_law := fa, d_law := (PySem.W.fnOf "law" "law" (defArgs s_law) (defBody s_law) (defScope s_law) .none kV_law dc_law pm_law an_law cd_law ct_law), C := C, CF := CF, CC := CC, po := po, c_most_urgent_first := cc_most_urgent_first, P_most_urgent_first := PP_most_urgent_first }
  have T : Tx K mg A := {
    F_is_integer := (fun_mk (st := s_is_integer) l_is_integer c_is_integer k_is_integer)
    m_is_integer := PySem.W.mg_of X G a_is_integer
    F_is_integer_from := (fun_mk (st := s_is_integer_from) l_is_integer_from c_is_integer_from k_is_integer_from)
    m_is_integer_from := PySem.W.mg_of X G a_is_integer_from
    F_is_key := (fun_mk (st := s_is_key) l_is_key c_is_key k_is_key)
    m_is_key := PySem.W.mg_of X G a_is_key
    F_check_arms := (fun_mk (st := s_check_arms) l_check_arms c_check_arms k_check_arms)
    m_check_arms := PySem.W.mg_of X G a_check_arms
    F_check_many := (fun_mk (st := s_check_many) l_check_many c_check_many k_check_many)
    m_check_many := PySem.W.mg_of X G a_check_many
    F_check_place := (fun_mk (st := s_check_place) l_check_place c_check_place k_check_place)
    m_check_place := PySem.W.mg_of X G a_check_place
    F_row_of := (fun_mk (st := s_row_of) l_row_of c_row_of k_row_of)
    m_row_of := PySem.W.mg_of X G a_row_of
    F_is_full := (fun_mk (st := s_is_full) l_is_full c_is_full k_is_full)
    m_is_full := PySem.W.mg_of X G a_is_full
    F_t___init__ := ⟨⟨_, _, _, _, _, _, _, _, _, _, rfl, l_t___init__, c_t___init__, .inl ⟨rfl, rfl⟩, .inr ⟨_, rfl, fun q hq => by rw [List.mem_singleton.mp hq]; exact ⟨_, w_t___init__, relI _ _⟩⟩⟩, k_t___init__⟩
    F_t_of := ⟨⟨_, _, _, _, _, _, _, _, _, _, rfl, l_t_of, c_t_of, .inl ⟨rfl, rfl⟩, .inr ⟨_, rfl, fun q hq => by rw [List.mem_singleton.mp hq]; exact ⟨_, w_t_of, relI _ _⟩⟩⟩, k_t_of⟩
    F_t___len__ := (fun_mk (st := s_t___len__) l_t___len__ c_t___len__ k_t___len__)
    D_t___len__ := ⟨a_t___len__, i_t___len__, n_t___len__⟩
    F_t___contains__ := (fun_mk (st := s_t___contains__) l_t___contains__ c_t___contains__ k_t___contains__)
    D_t___contains__ := ⟨a_t___contains__, i_t___contains__, n_t___contains__⟩
    F_t___iter__ := (fun_mk (st := s_t___iter__) l_t___iter__ c_t___iter__ k_t___iter__)
    D_t___iter__ := ⟨a_t___iter__, i_t___iter__, n_t___iter__⟩
    F_t___getitem__ := (fun_mk (st := s_t___getitem__) l_t___getitem__ c_t___getitem__ k_t___getitem__)
    D_t___getitem__ := ⟨a_t___getitem__, i_t___getitem__, n_t___getitem__⟩
    F_t_parent := (fun_mk (st := s_t_parent) l_t_parent c_t_parent k_t_parent)
    M_t_parent := ⟨a_t_parent, i_t_parent, k_t_parent⟩
    F_is_heap := ⟨⟨_, _, _, _, _, _, _, _, _, _, rfl, l_is_heap, c_is_heap, .inl ⟨rfl, rfl⟩, .inr ⟨_, rfl, fun q hq => by rw [List.mem_singleton.mp hq]; exact ⟨_, w_is_heap, relI _ _⟩⟩⟩, k_is_heap⟩
    m_is_heap := PySem.W.mg_of X G a_is_heap
    F_faults := ⟨⟨_, _, _, _, _, _, _, _, _, _, rfl, l_faults, c_faults, .inl ⟨rfl, rfl⟩, .inr ⟨_, rfl, fun q hq => by rw [List.mem_singleton.mp hq]; exact ⟨_, w_faults, relI _ _⟩⟩⟩, k_faults⟩
    m_faults := PySem.W.mg_of X G a_faults
    F_is_full_heap := (fun_mk (st := s_is_full_heap) l_is_full_heap c_is_full_heap k_is_full_heap)
    m_is_full_heap := PySem.W.mg_of X G a_is_full_heap
    F_f___init__ := (fun_mk (st := s_f___init__) l_f___init__ c_f___init__ k_f___init__)
    F_f_shows := ⟨⟨_, _, _, _, _, _, _, _, _, _, rfl, l_f_shows, c_f_shows, .inl ⟨rfl, rfl⟩, .inr ⟨_, rfl, fun q hq => by rw [List.mem_singleton.mp hq]; exact ⟨_, w_f_shows, relI _ _⟩⟩⟩, k_f_shows⟩
    M_f_shows := ⟨a_f_shows, i_f_shows, k_f_shows⟩
    F_c___init__ := (fun_mk (st := s_c___init__) l_c___init__ c_c___init__ k_c___init__)
    F_c_shows := ⟨⟨_, _, _, _, _, _, _, _, _, _, rfl, l_c_shows, c_c_shows, .inl ⟨rfl, rfl⟩, .inr ⟨_, rfl, fun q hq => by rw [List.mem_singleton.mp hq]; exact ⟨_, w_c_shows, relI _ _⟩⟩⟩, k_c_shows⟩
    M_c_shows := ⟨a_c_shows, i_c_shows, k_c_shows⟩
    F_fit := ⟨⟨_, _, _, _, _, _, _, _, _, _, rfl, l_fit, c_fit, .inl ⟨rfl, rfl⟩, .inr ⟨_, rfl, fun q hq => by rw [List.mem_singleton.mp hq]; exact ⟨_, w_fit, relI _ _⟩⟩⟩, k_fit⟩
    m_fit := PySem.W.mg_of X G a_fit
    F_can_fit := ⟨⟨_, _, _, _, _, _, _, _, _, _, rfl, l_can_fit, c_can_fit, .inl ⟨rfl, rfl⟩, .inr ⟨_, rfl, fun q hq => by rw [List.mem_singleton.mp hq]; exact ⟨_, w_can_fit, relI _ _⟩⟩⟩, k_can_fit⟩
    m_can_fit := PySem.W.mg_of X G a_can_fit
    F_told_bounds := ⟨⟨_, _, _, _, _, _, _, _, _, _, rfl, l_told_bounds, c_told_bounds, .inl ⟨rfl, rfl⟩, .inr ⟨_, rfl, fun q hq => by rw [List.mem_singleton.mp hq]; exact ⟨_, w_told_bounds, relI _ _⟩⟩⟩, k_told_bounds⟩
    m_told_bounds := PySem.W.mg_of X G a_told_bounds
    F_ranks_within := ⟨⟨_, _, _, _, _, _, _, _, _, _, rfl, l_ranks_within, c_ranks_within, .inl ⟨rfl, rfl⟩, .inr ⟨_, rfl, fun q hq => by rw [List.mem_singleton.mp hq]; exact ⟨_, w_ranks_within, relI _ _⟩⟩⟩, k_ranks_within⟩
    m_ranks_within := PySem.W.mg_of X G a_ranks_within
    F_check_bounds := (fun_mk (st := s_check_bounds) l_check_bounds c_check_bounds k_check_bounds)
    m_check_bounds := PySem.W.mg_of X G a_check_bounds
    F_is_pair_of_ranks := (fun_mk (st := s_is_pair_of_ranks) l_is_pair_of_ranks c_is_pair_of_ranks k_is_pair_of_ranks)
    m_is_pair_of_ranks := PySem.W.mg_of X G a_is_pair_of_ranks
    F_is_within := (fun_mk (st := s_is_within) l_is_within c_is_within k_is_within)
    m_is_within := PySem.W.mg_of X G a_is_within
    F_places_inside := (fun_mk (st := s_places_inside) l_places_inside c_places_inside k_places_inside)
    m_places_inside := PySem.W.mg_of X G a_places_inside
    F_is_crowd := (fun_mk (st := s_is_crowd) l_is_crowd c_is_crowd k_is_crowd)
    m_is_crowd := PySem.W.mg_of X G a_is_crowd
    L_most_urgent_first := ⟨_, _, _, _, _, _, _, _, rfl, l_most_urgent_first, c_most_urgent_first⟩
    F_most_urgent_first := (fun_mk (st := s_most_urgent_first) l_most_urgent_first c_most_urgent_first k_most_urgent_first)
    m_most_urgent_first := PySem.W.mg_of X G a_most_urgent_first
    F_can_have := (fun_mk (st := s_can_have) l_can_have c_can_have k_can_have)
    m_can_have := PySem.W.mg_of X G a_can_have
    F__law_number := (fun_mk (st := s__law_number) l__law_number c__law_number k__law_number)
    m__law_number := PySem.W.mg_of X G a__law_number
    F__law_take := (fun_mk (st := s__law_take) l__law_take c__law_take k__law_take)
    m__law_take := PySem.W.mg_of X G a__law_take
    F__law_pick := (fun_mk (st := s__law_pick) l__law_pick c__law_pick k__law_pick)
    m__law_pick := PySem.W.mg_of X G a__law_pick
    F__law_parent := (fun_mk (st := s__law_parent) l__law_parent c__law_parent k__law_parent)
    m__law_parent := PySem.W.mg_of X G a__law_parent
    F__law_way := (fun_mk (st := s__law_way) l__law_way c__law_way k__law_way)
    m__law_way := PySem.W.mg_of X G a__law_way
    F__law_subtree := (fun_mk (st := s__law_subtree) l__law_subtree c__law_subtree k__law_subtree)
    m__law_subtree := PySem.W.mg_of X G a__law_subtree
    F__law_arms := (fun_mk (st := s__law_arms) l__law_arms c__law_arms k__law_arms)
    m__law_arms := PySem.W.mg_of X G a__law_arms
    F__law_order := (fun_mk (st := s__law_order) l__law_order c__law_order k__law_order)
    m__law_order := PySem.W.mg_of X G a__law_order
    F__law_is_heap := (fun_mk (st := s__law_is_heap) l__law_is_heap c__law_is_heap k__law_is_heap)
    m__law_is_heap := PySem.W.mg_of X G a__law_is_heap
    F__law_heap := (fun_mk (st := s__law_heap) l__law_heap c__law_heap k__law_heap)
    m__law_heap := PySem.W.mg_of X G a__law_heap
    F__law_pairs := (fun_mk (st := s__law_pairs) l__law_pairs c__law_pairs k__law_pairs)
    m__law_pairs := PySem.W.mg_of X G a__law_pairs
    F__law_near_pairs := (fun_mk (st := s__law_near_pairs) l__law_near_pairs c__law_near_pairs k__law_near_pairs)
    m__law_near_pairs := PySem.W.mg_of X G a__law_near_pairs
    F__law_must := (fun_mk (st := s__law_must) l__law_must c__law_must k__law_must)
    m__law_must := PySem.W.mg_of X G a__law_must
    F__law_fits := (fun_mk (st := s__law_fits) l__law_fits c__law_fits k__law_fits)
    m__law_fits := PySem.W.mg_of X G a__law_fits
    F_law := (fun_mk (st := s_law) l_law c_law k_law)
    m_law := PySem.W.mg_of X G a_law
    c_GREATEST_KEY := .inr ⟨_, PySem.W.mg_of X G q_GREATEST_KEY⟩
    c_MOST_ARMS := .inr ⟨_, PySem.W.mg_of X G q_MOST_ARMS⟩
    c_MOST_PLACES := .inr ⟨_, PySem.W.mg_of X G q_MOST_PLACES⟩
    g_all := PySem.W.mg_none_of X G z_all
    g_any := PySem.W.mg_none_of X G z_any
    g_bool := PySem.W.mg_none_of X G z_bool
    g_enumerate := PySem.W.mg_none_of X G z_enumerate
    g_int := PySem.W.mg_none_of X G z_int
    g_isinstance := PySem.W.mg_none_of X G z_isinstance
    g_iter := PySem.W.mg_none_of X G z_iter
    g_len := PySem.W.mg_none_of X G z_len
    g_list := PySem.W.mg_none_of X G z_list
    g_max := PySem.W.mg_none_of X G z_max
    g_min := PySem.W.mg_none_of X G z_min
    g_range := PySem.W.mg_none_of X G z_range
    g_reversed := PySem.W.mg_none_of X G z_reversed
    g_set := PySem.W.mg_none_of X G z_set
    g_sorted := PySem.W.mg_none_of X G z_sorted
    g_sum := PySem.W.mg_none_of X G z_sum
    g_tuple := PySem.W.mg_none_of X G z_tuple
    g_zip := PySem.W.mg_none_of X G z_zip
    cT := ⟨pg, hd, po_, sa⟩
    nMany := na_nMany
    nArms := na_nArms
    nPl := na_nPl
    mC := PySem.W.mg_of X G aC
    mkC := ⟨mk, a_t___init__, i_t___init__, kc⟩
    cr := ⟨rd, ga⟩
    cof := ⟨a_t_of, ⟨_, r_t_of⟩, n_t_of⟩
    cTF := ⟨pgF, hdF, po_F, saF⟩
    fRow := na_fRow
    mCF := PySem.W.mg_of X G aCF
    mkCF := ⟨mkF, a_f___init__, i_f___init__, kcF⟩
    kaF := kaF
    knF := knF
    ktkF := ktkF
    kmF := kmF
    kiF_CC := kit_no2 kclF ktyF ensF_Crowded nesF_Crowded
    cTC := ⟨pgC, hdC, po_C, saC⟩
    cFirst := na_cFirst
    cLast := na_cLast
    cPlaces := na_cPlaces
    mCC := PySem.W.mg_of X G aCC
    mkCC := ⟨mkC, a_c___init__, i_c___init__, kcC⟩
    kaC := kaC
    knC := knC
    ktkC := ktkC
    kmC := kmC
    kiC_CF := kit_no2 kclC ktyC ensC_Fitted nesC_Fitted
  }
  refine ⟨A.d_law, [(cc_most_urgent_first, PP_most_urgent_first)], spLaw K A, fun p hp => by
    simp only [List.mem_cons, List.not_mem_nil, or_false] at hp
    rcases hp with rfl
    · exact hT_most_urgent_first, ?_, ?_, fun s v => .of_eq rfl, fun H a ns hl hb hH hS => ⟨a, ns, rfl, hS, hl, fun p hp => ?_, fun _ => rfl⟩, fun base _ _ hTB => ok_law T (hTB (cc_most_urgent_first, PP_most_urgent_first) (by simp))⟩
  · exact fun p hp => by
      simp only [List.mem_cons, List.not_mem_nil, or_false] at hp
      rcases hp with rfl
      · exact hN_most_urgent_first
  · exact fun p hp => by
      simp only [List.mem_cons, List.not_mem_nil, or_false] at hp
      rcases hp with rfl
      · exact PySem.W.codeHd_of_K X hC_most_urgent_first
  · unfold TT at hp
    simp only [List.mem_cons, List.not_mem_nil, or_false] at hp
    rcases hp with rfl
    · exact LamX.TabS.nil (hH (cc_most_urgent_first, PP_most_urgent_first) (by simp))
theorem walk {l : PySem.W.OpenLaw} {q : Program} {loose : List Str} {XP : (Str → Option Value) → Heap → Prop} {YP : World → Heap → Prop} {d : DefRec} {K : Params → PySem.W.Frag} (hn : l.most = some 63) (hdf : d.params.defaults = [])
    (hY : ∀ (w : World) (h : Heap), YP w h → (K w.params).In h)
    (F : ∀ (w : World) (mg : Str → Option Value) (fa : Addr) (h : Heap), YP w h → (K w.params).In h → h.Ns mainGlobals mg → mg d.name = some (.ref fa) → LamX.LawAtS l w (K w.params) CX0 18 63 "script" mg fa h) :
    PySem.W.WalkO q loose XP YP l.row.toRowW d [] (fun f vs => PySem.call f vs) :=
  LamX.walk_ofTs (n := 63) (k := 18) (x := "script") (CX := fun _ => CX0) hn (by decide) hdf ⟨rfl, by decide, by decide⟩ hY F fun _ _ _ _ _ z => z
end Tw

set_option Elab.async false
set_option linter.all false
set_option maxRecDepth 100000
set_option maxHeartbeats 2000000
namespace Tw
open PySem PySem.Spec PyProof.Rows L2
set_option maxHeartbeats 0
abbrev R0 : PySem.W.OpenRow := PySem.W.OpenLaw.row PySem.Challenge.rw_heaprows_k15_whole_bounds_long
def q_is_integer : Sh.FnA := ⟨fun K => (Sh.gA K "is_integer"), "is_integer", "is_integer", defArgs s_is_integer, defBody s_is_integer, defScope s_is_integer⟩
def q_is_integer_from : Sh.FnA := ⟨fun K => (Sh.gA K "is_integer_from"), "is_integer_from", "is_integer_from", defArgs s_is_integer_from, defBody s_is_integer_from, defScope s_is_integer_from⟩
def q_is_key : Sh.FnA := ⟨fun K => (Sh.gA K "is_key"), "is_key", "is_key", defArgs s_is_key, defBody s_is_key, defScope s_is_key⟩
def q_check_arms : Sh.FnA := ⟨fun K => (Sh.gA K "check_arms"), "check_arms", "check_arms", defArgs s_check_arms, defBody s_check_arms, defScope s_check_arms⟩
def q_check_many : Sh.FnA := ⟨fun K => (Sh.gA K "check_many"), "check_many", "check_many", defArgs s_check_many, defBody s_check_many, defScope s_check_many⟩
def q_check_place : Sh.FnA := ⟨fun K => (Sh.gA K "check_place"), "check_place", "check_place", defArgs s_check_place, defBody s_check_place, defScope s_check_place⟩
def q_row_of : Sh.FnA := ⟨fun K => (Sh.gA K "row_of"), "row_of", "row_of", defArgs s_row_of, defBody s_row_of, defScope s_row_of⟩
def q_is_full : Sh.FnA := ⟨fun K => (Sh.gA K "is_full"), "is_full", "is_full", defArgs s_is_full, defBody s_is_full, defScope s_is_full⟩
def q_t___init__ : Sh.FnA := ⟨fun K => (Sh.mA K (Sh.gA K "Tree") "__init__"), "__init__", "Tree.__init__", defArgs s_t___init__, defBody s_t___init__, defScope s_t___init__⟩
def q_t_of : Sh.FnA := ⟨fun K => (Sh.recA K (Sh.clsA K (Sh.gA K "Tree") "of") "classmethod"), "of", "Tree.of", defArgs s_t_of, defBody s_t_of, defScope s_t_of⟩
def q_t___len__ : Sh.FnA := ⟨fun K => (Sh.mA K (Sh.gA K "Tree") "__len__"), "__len__", "Tree.__len__", defArgs s_t___len__, defBody s_t___len__, defScope s_t___len__⟩
def q_t___contains__ : Sh.FnA := ⟨fun K => (Sh.mA K (Sh.gA K "Tree") "__contains__"), "__contains__", "Tree.__contains__", defArgs s_t___contains__, defBody s_t___contains__, defScope s_t___contains__⟩
def q_t___iter__ : Sh.FnA := ⟨fun K => (Sh.mA K (Sh.gA K "Tree") "__iter__"), "__iter__", "Tree.__iter__", defArgs s_t___iter__, defBody s_t___iter__, defScope s_t___iter__⟩
def q_t___getitem__ : Sh.FnA := ⟨fun K => (Sh.mA K (Sh.gA K "Tree") "__getitem__"), "__getitem__", "Tree.__getitem__", defArgs s_t___getitem__, defBody s_t___getitem__, defScope s_t___getitem__⟩
def q_t_parent : Sh.FnA := ⟨fun K => (Sh.mA K (Sh.gA K "Tree") "parent"), "parent", "Tree.parent", defArgs s_t_parent, defBody s_t_parent, defScope s_t_parent⟩
def q_is_heap : Sh.FnA := ⟨fun K => (Sh.gA K "is_heap"), "is_heap", "is_heap", defArgs s_is_heap, defBody s_is_heap, defScope s_is_heap⟩
def q_faults : Sh.FnA := ⟨fun K => (Sh.gA K "faults"), "faults", "faults", defArgs s_faults, defBody s_faults, defScope s_faults⟩
def q_is_full_heap : Sh.FnA := ⟨fun K => (Sh.gA K "is_full_heap"), "is_full_heap", "is_full_heap", defArgs s_is_full_heap, defBody s_is_full_heap, defScope s_is_full_heap⟩
def q_f___init__ : Sh.FnA := ⟨fun K => (Sh.mA K (Sh.gA K "Fitted") "__init__"), "__init__", "Fitted.__init__", defArgs s_f___init__, defBody s_f___init__, defScope s_f___init__⟩
def q_f_shows : Sh.FnA := ⟨fun K => (Sh.mA K (Sh.gA K "Fitted") "shows"), "shows", "Fitted.shows", defArgs s_f_shows, defBody s_f_shows, defScope s_f_shows⟩
def q_c___init__ : Sh.FnA := ⟨fun K => (Sh.mA K (Sh.gA K "Crowded") "__init__"), "__init__", "Crowded.__init__", defArgs s_c___init__, defBody s_c___init__, defScope s_c___init__⟩
def q_c_shows : Sh.FnA := ⟨fun K => (Sh.mA K (Sh.gA K "Crowded") "shows"), "shows", "Crowded.shows", defArgs s_c_shows, defBody s_c_shows, defScope s_c_shows⟩
def q_fit : Sh.FnA := ⟨fun K => (Sh.gA K "fit"), "fit", "fit", defArgs s_fit, defBody s_fit, defScope s_fit⟩
def q_can_fit : Sh.FnA := ⟨fun K => (Sh.gA K "can_fit"), "can_fit", "can_fit", defArgs s_can_fit, defBody s_can_fit, defScope s_can_fit⟩
def q_told_bounds : Sh.FnA := ⟨fun K => (Sh.gA K "told_bounds"), "told_bounds", "told_bounds", defArgs s_told_bounds, defBody s_told_bounds, defScope s_told_bounds⟩
def q_ranks_within : Sh.FnA := ⟨fun K => (Sh.gA K "ranks_within"), "ranks_within", "ranks_within", defArgs s_ranks_within, defBody s_ranks_within, defScope s_ranks_within⟩
def q_check_bounds : Sh.FnA := ⟨fun K => (Sh.gA K "check_bounds"), "check_bounds", "check_bounds", defArgs s_check_bounds, defBody s_check_bounds, defScope s_check_bounds⟩
def q_is_pair_of_ranks : Sh.FnA := ⟨fun K => (Sh.gA K "is_pair_of_ranks"), "is_pair_of_ranks", "is_pair_of_ranks", defArgs s_is_pair_of_ranks, defBody s_is_pair_of_ranks, defScope s_is_pair_of_ranks⟩
def q_is_within : Sh.FnA := ⟨fun K => (Sh.gA K "is_within"), "is_within", "is_within", defArgs s_is_within, defBody s_is_within, defScope s_is_within⟩
def q_places_inside : Sh.FnA := ⟨fun K => (Sh.gA K "places_inside"), "places_inside", "places_inside", defArgs s_places_inside, defBody s_places_inside, defScope s_places_inside⟩
def q_is_crowd : Sh.FnA := ⟨fun K => (Sh.gA K "is_crowd"), "is_crowd", "is_crowd", defArgs s_is_crowd, defBody s_is_crowd, defScope s_is_crowd⟩
def q_most_urgent_first : Sh.FnA := ⟨fun K => (Sh.gA K "most_urgent_first"), "most_urgent_first", "most_urgent_first", defArgs s_most_urgent_first, defBody s_most_urgent_first, defScope s_most_urgent_first⟩
def q_can_have : Sh.FnA := ⟨fun K => (Sh.gA K "can_have"), "can_have", "can_have", defArgs s_can_have, defBody s_can_have, defScope s_can_have⟩
def q__law_number : Sh.FnA := ⟨fun K => (Sh.gA K "_law_number"), "_law_number", "_law_number", defArgs s__law_number, defBody s__law_number, defScope s__law_number⟩
def q__law_take : Sh.FnA := ⟨fun K => (Sh.gA K "_law_take"), "_law_take", "_law_take", defArgs s__law_take, defBody s__law_take, defScope s__law_take⟩
def q__law_pick : Sh.FnA := ⟨fun K => (Sh.gA K "_law_pick"), "_law_pick", "_law_pick", defArgs s__law_pick, defBody s__law_pick, defScope s__law_pick⟩
def q__law_parent : Sh.FnA := ⟨fun K => (Sh.gA K "_law_parent"), "_law_parent", "_law_parent", defArgs s__law_parent, defBody s__law_parent, defScope s__law_parent⟩
def q__law_way : Sh.FnA := ⟨fun K => (Sh.gA K "_law_way"), "_law_way", "_law_way", defArgs s__law_way, defBody s__law_way, defScope s__law_way⟩
def q__law_subtree : Sh.FnA := ⟨fun K => (Sh.gA K "_law_subtree"), "_law_subtree", "_law_subtree", defArgs s__law_subtree, defBody s__law_subtree, defScope s__law_subtree⟩
def q__law_arms : Sh.FnA := ⟨fun K => (Sh.gA K "_law_arms"), "_law_arms", "_law_arms", defArgs s__law_arms, defBody s__law_arms, defScope s__law_arms⟩
def q__law_order : Sh.FnA := ⟨fun K => (Sh.gA K "_law_order"), "_law_order", "_law_order", defArgs s__law_order, defBody s__law_order, defScope s__law_order⟩
def q__law_is_heap : Sh.FnA := ⟨fun K => (Sh.gA K "_law_is_heap"), "_law_is_heap", "_law_is_heap", defArgs s__law_is_heap, defBody s__law_is_heap, defScope s__law_is_heap⟩
def q__law_heap : Sh.FnA := ⟨fun K => (Sh.gA K "_law_heap"), "_law_heap", "_law_heap", defArgs s__law_heap, defBody s__law_heap, defScope s__law_heap⟩
def q__law_pairs : Sh.FnA := ⟨fun K => (Sh.gA K "_law_pairs"), "_law_pairs", "_law_pairs", defArgs s__law_pairs, defBody s__law_pairs, defScope s__law_pairs⟩
def q__law_near_pairs : Sh.FnA := ⟨fun K => (Sh.gA K "_law_near_pairs"), "_law_near_pairs", "_law_near_pairs", defArgs s__law_near_pairs, defBody s__law_near_pairs, defScope s__law_near_pairs⟩
def q__law_must : Sh.FnA := ⟨fun K => (Sh.gA K "_law_must"), "_law_must", "_law_must", defArgs s__law_must, defBody s__law_must, defScope s__law_must⟩
def q__law_fits : Sh.FnA := ⟨fun K => (Sh.gA K "_law_fits"), "_law_fits", "_law_fits", defArgs s__law_fits, defBody s__law_fits, defScope s__law_fits⟩
def q_law : Sh.FnA := ⟨fun K => (Sh.gA K "law"), "law", "law", defArgs s_law, defBody s_law, defScope s_law⟩
def fns0 : List Sh.FnA := [q_is_integer, q_is_integer_from, q_is_key, q_check_arms, q_check_many, q_check_place, q_row_of, q_is_full, q_t___init__, q_t_of, q_t___len__, q_t___contains__, q_t___iter__, q_t___getitem__, q_t_parent, q_is_heap, q_faults, q_is_full_heap, q_f___init__, q_f_shows, q_c___init__, q_c_shows, q_fit, q_can_fit, q_told_bounds]
def fns1 : List Sh.FnA := [q_ranks_within, q_check_bounds, q_is_pair_of_ranks, q_is_within, q_places_inside, q_is_crowd, q_most_urgent_first, q_can_have, q__law_number, q__law_take, q__law_pick, q__law_parent, q__law_way, q__law_subtree, q__law_arms, q__law_order, q__law_is_heap, q__law_heap, q__law_pairs, q__law_near_pairs, q__law_must, q__law_fits, q_law]
def fns : List Sh.FnA := fns0 ++ fns1
def gr0 (K : PySem.W.Frag) : Bool := decide (PySem.W.nsIn K mainGlobals "Tree" = some (some (.ref (Sh.gA K "Tree")))) && (decide (PySem.W.nsIn K mainGlobals "Fitted" = some (some (.ref (Sh.gA K "Fitted")))) && (decide (PySem.W.nsIn K mainGlobals "Crowded" = some (some (.ref (Sh.gA K "Crowded")))) && (decide (PySem.W.nsIn K mainGlobals "is_integer" = some (some (.ref (Sh.gA K "is_integer")))) && (decide (PySem.W.nsIn K mainGlobals "is_integer_from" = some (some (.ref (Sh.gA K "is_integer_from")))) && (decide (PySem.W.nsIn K mainGlobals "is_key" = some (some (.ref (Sh.gA K "is_key")))) && (decide (PySem.W.nsIn K mainGlobals "check_arms" = some (some (.ref (Sh.gA K "check_arms")))) && (decide (PySem.W.nsIn K mainGlobals "check_many" = some (some (.ref (Sh.gA K "check_many")))) && (decide (PySem.W.nsIn K mainGlobals "check_place" = some (some (.ref (Sh.gA K "check_place")))) && (decide (PySem.W.nsIn K mainGlobals "row_of" = some (some (.ref (Sh.gA K "row_of")))) && (decide (PySem.W.nsIn K mainGlobals "is_full" = some (some (.ref (Sh.gA K "is_full")))) && (decide (PySem.W.findIn K (.ref (Sh.gA K "Tree")) "__init__" = some (some (.ref (Sh.mA K (Sh.gA K "Tree") "__init__")))))))))))))))
theorem gr0_ok {K : PySem.W.Frag} (h : gr0 K = true) : (PySem.W.nsIn K mainGlobals "Tree" = some (some (.ref (Sh.gA K "Tree")))) ∧ (PySem.W.nsIn K mainGlobals "Fitted" = some (some (.ref (Sh.gA K "Fitted")))) ∧ (PySem.W.nsIn K mainGlobals "Crowded" = some (some (.ref (Sh.gA K "Crowded")))) ∧ (PySem.W.nsIn K mainGlobals "is_integer" = some (some (.ref (Sh.gA K "is_integer")))) ∧ (PySem.W.nsIn K mainGlobals "is_integer_from" = some (some (.ref (Sh.gA K "is_integer_from")))) ∧ (PySem.W.nsIn K mainGlobals "is_key" = some (some (.ref (Sh.gA K "is_key")))) ∧ (PySem.W.nsIn K mainGlobals "check_arms" = some (some (.ref (Sh.gA K "check_arms")))) ∧ (PySem.W.nsIn K mainGlobals "check_many" = some (some (.ref (Sh.gA K "check_many")))) ∧ (PySem.W.nsIn K mainGlobals "check_place" = some (some (.ref (Sh.gA K "check_place")))) ∧ (PySem.W.nsIn K mainGlobals "row_of" = some (some (.ref (Sh.gA K "row_of")))) ∧ (PySem.W.nsIn K mainGlobals "is_full" = some (some (.ref (Sh.gA K "is_full")))) ∧ (PySem.W.findIn K (.ref (Sh.gA K "Tree")) "__init__" = some (some (.ref (Sh.mA K (Sh.gA K "Tree") "__init__")))) := by
  unfold gr0 at h
  obtain ⟨h0, h⟩ := Sh.band h
  obtain ⟨h1, h⟩ := Sh.band h
  obtain ⟨h2, h⟩ := Sh.band h
  obtain ⟨h3, h⟩ := Sh.band h
  obtain ⟨h4, h⟩ := Sh.band h
  obtain ⟨h5, h⟩ := Sh.band h
  obtain ⟨h6, h⟩ := Sh.band h
  obtain ⟨h7, h⟩ := Sh.band h
  obtain ⟨h8, h⟩ := Sh.band h
  obtain ⟨h9, h⟩ := Sh.band h
  obtain ⟨h10, h⟩ := Sh.band h
  exact ⟨of_decide_eq_true h0, of_decide_eq_true h1, of_decide_eq_true h2, of_decide_eq_true h3, of_decide_eq_true h4, of_decide_eq_true h5, of_decide_eq_true h6, of_decide_eq_true h7, of_decide_eq_true h8, of_decide_eq_true h9, of_decide_eq_true h10, of_decide_eq_true h⟩
def gr1 (K : PySem.W.Frag) : Bool := decide (PySem.W.isFn K (.ref (Sh.mA K (Sh.gA K "Tree") "__init__")) = true) && (decide (PySem.W.nsIn K (Sh.kwA K (Sh.mA K (Sh.gA K "Tree") "__init__")) "arms" = some (some (.int 2 (Sh.tokI K (Sh.kwA K (Sh.mA K (Sh.gA K "Tree") "__init__")) "arms")))) && (Sh.ofB K (Sh.gA K "Tree") (Sh.clsA K (Sh.gA K "Tree") "of") "of" && (decide (PySem.W.recIn K (Sh.clsA K (Sh.gA K "Tree") "of") "classmethod" = some (.ref (Sh.recA K (Sh.clsA K (Sh.gA K "Tree") "of") "classmethod") :: (Sh.recT K (Sh.clsA K (Sh.gA K "Tree") "of") "classmethod"))) && (decide (PySem.W.fnIn K (Sh.recA K (Sh.clsA K (Sh.gA K "Tree") "of") "classmethod") = true) && (decide (PySem.W.nsIn K (Sh.kwA K (Sh.recA K (Sh.clsA K (Sh.gA K "Tree") "of") "classmethod")) "arms" = some (some (.int 2 (Sh.tokI K (Sh.kwA K (Sh.recA K (Sh.clsA K (Sh.gA K "Tree") "of") "classmethod")) "arms")))) && (decide (PySem.W.findIn K (.ref (Sh.gA K "Tree")) "__len__" = some (some (.ref (Sh.mA K (Sh.gA K "Tree") "__len__")))) && (decide (PySem.W.isFn K (.ref (Sh.mA K (Sh.gA K "Tree") "__len__")) = true) && (decide (PySem.W.fnIn K (Sh.mA K (Sh.gA K "Tree") "__len__") = true) && (decide (PySem.W.findIn K (.ref (Sh.gA K "Tree")) "__contains__" = some (some (.ref (Sh.mA K (Sh.gA K "Tree") "__contains__")))) && (decide (PySem.W.isFn K (.ref (Sh.mA K (Sh.gA K "Tree") "__contains__")) = true) && (decide (PySem.W.fnIn K (Sh.mA K (Sh.gA K "Tree") "__contains__") = true))))))))))))
theorem gr1_ok {K : PySem.W.Frag} (h : gr1 K = true) : (PySem.W.isFn K (.ref (Sh.mA K (Sh.gA K "Tree") "__init__")) = true) ∧ (PySem.W.nsIn K (Sh.kwA K (Sh.mA K (Sh.gA K "Tree") "__init__")) "arms" = some (some (.int 2 (Sh.tokI K (Sh.kwA K (Sh.mA K (Sh.gA K "Tree") "__init__")) "arms")))) ∧ (PySem.W.findCls K (.ref (Sh.gA K "Tree")) (.type "type") "of" = some (.get (.builtin "classmethod.__get__") (.ref (Sh.clsA K (Sh.gA K "Tree") "of")) .none (.ref (Sh.gA K "Tree")))) ∧ (PySem.W.recIn K (Sh.clsA K (Sh.gA K "Tree") "of") "classmethod" = some (.ref (Sh.recA K (Sh.clsA K (Sh.gA K "Tree") "of") "classmethod") :: (Sh.recT K (Sh.clsA K (Sh.gA K "Tree") "of") "classmethod"))) ∧ (PySem.W.fnIn K (Sh.recA K (Sh.clsA K (Sh.gA K "Tree") "of") "classmethod") = true) ∧ (PySem.W.nsIn K (Sh.kwA K (Sh.recA K (Sh.clsA K (Sh.gA K "Tree") "of") "classmethod")) "arms" = some (some (.int 2 (Sh.tokI K (Sh.kwA K (Sh.recA K (Sh.clsA K (Sh.gA K "Tree") "of") "classmethod")) "arms")))) ∧ (PySem.W.findIn K (.ref (Sh.gA K "Tree")) "__len__" = some (some (.ref (Sh.mA K (Sh.gA K "Tree") "__len__")))) ∧ (PySem.W.isFn K (.ref (Sh.mA K (Sh.gA K "Tree") "__len__")) = true) ∧ (PySem.W.fnIn K (Sh.mA K (Sh.gA K "Tree") "__len__") = true) ∧ (PySem.W.findIn K (.ref (Sh.gA K "Tree")) "__contains__" = some (some (.ref (Sh.mA K (Sh.gA K "Tree") "__contains__")))) ∧ (PySem.W.isFn K (.ref (Sh.mA K (Sh.gA K "Tree") "__contains__")) = true) ∧ (PySem.W.fnIn K (Sh.mA K (Sh.gA K "Tree") "__contains__") = true) := by
  unfold gr1 at h
  obtain ⟨h0, h⟩ := Sh.band h
  obtain ⟨h1, h⟩ := Sh.band h
  obtain ⟨h2, h⟩ := Sh.band h
  obtain ⟨h3, h⟩ := Sh.band h
  obtain ⟨h4, h⟩ := Sh.band h
  obtain ⟨h5, h⟩ := Sh.band h
  obtain ⟨h6, h⟩ := Sh.band h
  obtain ⟨h7, h⟩ := Sh.band h
  obtain ⟨h8, h⟩ := Sh.band h
  obtain ⟨h9, h⟩ := Sh.band h
  obtain ⟨h10, h⟩ := Sh.band h
  exact ⟨of_decide_eq_true h0, of_decide_eq_true h1, Sh.ofB_ok h2, of_decide_eq_true h3, of_decide_eq_true h4, of_decide_eq_true h5, of_decide_eq_true h6, of_decide_eq_true h7, of_decide_eq_true h8, of_decide_eq_true h9, of_decide_eq_true h10, of_decide_eq_true h⟩
def gr2 (K : PySem.W.Frag) : Bool := decide (PySem.W.findIn K (.ref (Sh.gA K "Tree")) "__iter__" = some (some (.ref (Sh.mA K (Sh.gA K "Tree") "__iter__")))) && (decide (PySem.W.isFn K (.ref (Sh.mA K (Sh.gA K "Tree") "__iter__")) = true) && (decide (PySem.W.fnIn K (Sh.mA K (Sh.gA K "Tree") "__iter__") = true) && (decide (PySem.W.findIn K (.ref (Sh.gA K "Tree")) "__getitem__" = some (some (.ref (Sh.mA K (Sh.gA K "Tree") "__getitem__")))) && (decide (PySem.W.isFn K (.ref (Sh.mA K (Sh.gA K "Tree") "__getitem__")) = true) && (decide (PySem.W.fnIn K (Sh.mA K (Sh.gA K "Tree") "__getitem__") = true) && (decide (PySem.W.findIn K (.ref (Sh.gA K "Tree")) "parent" = some (some (.ref (Sh.mA K (Sh.gA K "Tree") "parent")))) && (decide (PySem.W.isFn K (.ref (Sh.mA K (Sh.gA K "Tree") "parent")) = true) && (decide (PySem.W.nsIn K mainGlobals "is_heap" = some (some (.ref (Sh.gA K "is_heap")))) && (decide (PySem.W.nsIn K (Sh.kwA K (Sh.gA K "is_heap")) "arms" = some (some (.int 2 (Sh.tokI K (Sh.kwA K (Sh.gA K "is_heap")) "arms")))) && (decide (PySem.W.nsIn K mainGlobals "faults" = some (some (.ref (Sh.gA K "faults")))) && (decide (PySem.W.nsIn K (Sh.kwA K (Sh.gA K "faults")) "arms" = some (some (.int 2 (Sh.tokI K (Sh.kwA K (Sh.gA K "faults")) "arms")))))))))))))))
theorem gr2_ok {K : PySem.W.Frag} (h : gr2 K = true) : (PySem.W.findIn K (.ref (Sh.gA K "Tree")) "__iter__" = some (some (.ref (Sh.mA K (Sh.gA K "Tree") "__iter__")))) ∧ (PySem.W.isFn K (.ref (Sh.mA K (Sh.gA K "Tree") "__iter__")) = true) ∧ (PySem.W.fnIn K (Sh.mA K (Sh.gA K "Tree") "__iter__") = true) ∧ (PySem.W.findIn K (.ref (Sh.gA K "Tree")) "__getitem__" = some (some (.ref (Sh.mA K (Sh.gA K "Tree") "__getitem__")))) ∧ (PySem.W.isFn K (.ref (Sh.mA K (Sh.gA K "Tree") "__getitem__")) = true) ∧ (PySem.W.fnIn K (Sh.mA K (Sh.gA K "Tree") "__getitem__") = true) ∧ (PySem.W.findIn K (.ref (Sh.gA K "Tree")) "parent" = some (some (.ref (Sh.mA K (Sh.gA K "Tree") "parent")))) ∧ (PySem.W.isFn K (.ref (Sh.mA K (Sh.gA K "Tree") "parent")) = true) ∧ (PySem.W.nsIn K mainGlobals "is_heap" = some (some (.ref (Sh.gA K "is_heap")))) ∧ (PySem.W.nsIn K (Sh.kwA K (Sh.gA K "is_heap")) "arms" = some (some (.int 2 (Sh.tokI K (Sh.kwA K (Sh.gA K "is_heap")) "arms")))) ∧ (PySem.W.nsIn K mainGlobals "faults" = some (some (.ref (Sh.gA K "faults")))) ∧ (PySem.W.nsIn K (Sh.kwA K (Sh.gA K "faults")) "arms" = some (some (.int 2 (Sh.tokI K (Sh.kwA K (Sh.gA K "faults")) "arms")))) := by
  unfold gr2 at h
  obtain ⟨h0, h⟩ := Sh.band h
  obtain ⟨h1, h⟩ := Sh.band h
  obtain ⟨h2, h⟩ := Sh.band h
  obtain ⟨h3, h⟩ := Sh.band h
  obtain ⟨h4, h⟩ := Sh.band h
  obtain ⟨h5, h⟩ := Sh.band h
  obtain ⟨h6, h⟩ := Sh.band h
  obtain ⟨h7, h⟩ := Sh.band h
  obtain ⟨h8, h⟩ := Sh.band h
  obtain ⟨h9, h⟩ := Sh.band h
  obtain ⟨h10, h⟩ := Sh.band h
  exact ⟨of_decide_eq_true h0, of_decide_eq_true h1, of_decide_eq_true h2, of_decide_eq_true h3, of_decide_eq_true h4, of_decide_eq_true h5, of_decide_eq_true h6, of_decide_eq_true h7, of_decide_eq_true h8, of_decide_eq_true h9, of_decide_eq_true h10, of_decide_eq_true h⟩
def gr3 (K : PySem.W.Frag) : Bool := decide (PySem.W.nsIn K mainGlobals "is_full_heap" = some (some (.ref (Sh.gA K "is_full_heap")))) && (decide (PySem.W.findIn K (.ref (Sh.gA K "Fitted")) "__init__" = some (some (.ref (Sh.mA K (Sh.gA K "Fitted") "__init__")))) && (decide (PySem.W.isFn K (.ref (Sh.mA K (Sh.gA K "Fitted") "__init__")) = true) && (decide (PySem.W.findIn K (.ref (Sh.gA K "Fitted")) "shows" = some (some (.ref (Sh.mA K (Sh.gA K "Fitted") "shows")))) && (decide (PySem.W.isFn K (.ref (Sh.mA K (Sh.gA K "Fitted") "shows")) = true) && (decide (PySem.W.nsIn K (Sh.kwA K (Sh.mA K (Sh.gA K "Fitted") "shows")) "arms" = some (some (.int 2 (Sh.tokI K (Sh.kwA K (Sh.mA K (Sh.gA K "Fitted") "shows")) "arms")))) && (decide (PySem.W.findIn K (.ref (Sh.gA K "Crowded")) "__init__" = some (some (.ref (Sh.mA K (Sh.gA K "Crowded") "__init__")))) && (decide (PySem.W.isFn K (.ref (Sh.mA K (Sh.gA K "Crowded") "__init__")) = true) && (decide (PySem.W.findIn K (.ref (Sh.gA K "Crowded")) "shows" = some (some (.ref (Sh.mA K (Sh.gA K "Crowded") "shows")))) && (decide (PySem.W.isFn K (.ref (Sh.mA K (Sh.gA K "Crowded") "shows")) = true) && (decide (PySem.W.nsIn K (Sh.kwA K (Sh.mA K (Sh.gA K "Crowded") "shows")) "arms" = some (some (.int 2 (Sh.tokI K (Sh.kwA K (Sh.mA K (Sh.gA K "Crowded") "shows")) "arms")))) && (decide (PySem.W.nsIn K mainGlobals "fit" = some (some (.ref (Sh.gA K "fit")))))))))))))))
theorem gr3_ok {K : PySem.W.Frag} (h : gr3 K = true) : (PySem.W.nsIn K mainGlobals "is_full_heap" = some (some (.ref (Sh.gA K "is_full_heap")))) ∧ (PySem.W.findIn K (.ref (Sh.gA K "Fitted")) "__init__" = some (some (.ref (Sh.mA K (Sh.gA K "Fitted") "__init__")))) ∧ (PySem.W.isFn K (.ref (Sh.mA K (Sh.gA K "Fitted") "__init__")) = true) ∧ (PySem.W.findIn K (.ref (Sh.gA K "Fitted")) "shows" = some (some (.ref (Sh.mA K (Sh.gA K "Fitted") "shows")))) ∧ (PySem.W.isFn K (.ref (Sh.mA K (Sh.gA K "Fitted") "shows")) = true) ∧ (PySem.W.nsIn K (Sh.kwA K (Sh.mA K (Sh.gA K "Fitted") "shows")) "arms" = some (some (.int 2 (Sh.tokI K (Sh.kwA K (Sh.mA K (Sh.gA K "Fitted") "shows")) "arms")))) ∧ (PySem.W.findIn K (.ref (Sh.gA K "Crowded")) "__init__" = some (some (.ref (Sh.mA K (Sh.gA K "Crowded") "__init__")))) ∧ (PySem.W.isFn K (.ref (Sh.mA K (Sh.gA K "Crowded") "__init__")) = true) ∧ (PySem.W.findIn K (.ref (Sh.gA K "Crowded")) "shows" = some (some (.ref (Sh.mA K (Sh.gA K "Crowded") "shows")))) ∧ (PySem.W.isFn K (.ref (Sh.mA K (Sh.gA K "Crowded") "shows")) = true) ∧ (PySem.W.nsIn K (Sh.kwA K (Sh.mA K (Sh.gA K "Crowded") "shows")) "arms" = some (some (.int 2 (Sh.tokI K (Sh.kwA K (Sh.mA K (Sh.gA K "Crowded") "shows")) "arms")))) ∧ (PySem.W.nsIn K mainGlobals "fit" = some (some (.ref (Sh.gA K "fit")))) := by
  unfold gr3 at h
  obtain ⟨h0, h⟩ := Sh.band h
  obtain ⟨h1, h⟩ := Sh.band h
  obtain ⟨h2, h⟩ := Sh.band h
  obtain ⟨h3, h⟩ := Sh.band h
  obtain ⟨h4, h⟩ := Sh.band h
  obtain ⟨h5, h⟩ := Sh.band h
  obtain ⟨h6, h⟩ := Sh.band h
  obtain ⟨h7, h⟩ := Sh.band h
  obtain ⟨h8, h⟩ := Sh.band h
  obtain ⟨h9, h⟩ := Sh.band h
  obtain ⟨h10, h⟩ := Sh.band h
  exact ⟨of_decide_eq_true h0, of_decide_eq_true h1, of_decide_eq_true h2, of_decide_eq_true h3, of_decide_eq_true h4, of_decide_eq_true h5, of_decide_eq_true h6, of_decide_eq_true h7, of_decide_eq_true h8, of_decide_eq_true h9, of_decide_eq_true h10, of_decide_eq_true h⟩
def gr4 (K : PySem.W.Frag) : Bool := decide (PySem.W.nsIn K (Sh.kwA K (Sh.gA K "fit")) "arms" = some (some (.int 2 (Sh.tokI K (Sh.kwA K (Sh.gA K "fit")) "arms")))) && (decide (PySem.W.nsIn K mainGlobals "can_fit" = some (some (.ref (Sh.gA K "can_fit")))) && (decide (PySem.W.nsIn K (Sh.kwA K (Sh.gA K "can_fit")) "arms" = some (some (.int 2 (Sh.tokI K (Sh.kwA K (Sh.gA K "can_fit")) "arms")))) && (decide (PySem.W.nsIn K mainGlobals "told_bounds" = some (some (.ref (Sh.gA K "told_bounds")))) && (decide (PySem.W.nsIn K (Sh.kwA K (Sh.gA K "told_bounds")) "arms" = some (some (.int 2 (Sh.tokI K (Sh.kwA K (Sh.gA K "told_bounds")) "arms")))) && (decide (PySem.W.nsIn K mainGlobals "ranks_within" = some (some (.ref (Sh.gA K "ranks_within")))) && (decide (PySem.W.nsIn K (Sh.kwA K (Sh.gA K "ranks_within")) "arms" = some (some (.int 2 (Sh.tokI K (Sh.kwA K (Sh.gA K "ranks_within")) "arms")))) && (decide (PySem.W.nsIn K mainGlobals "check_bounds" = some (some (.ref (Sh.gA K "check_bounds")))) && (decide (PySem.W.nsIn K mainGlobals "is_pair_of_ranks" = some (some (.ref (Sh.gA K "is_pair_of_ranks")))) && (decide (PySem.W.nsIn K mainGlobals "is_within" = some (some (.ref (Sh.gA K "is_within")))) && (decide (PySem.W.nsIn K mainGlobals "places_inside" = some (some (.ref (Sh.gA K "places_inside")))) && (decide (PySem.W.nsIn K mainGlobals "is_crowd" = some (some (.ref (Sh.gA K "is_crowd")))))))))))))))
theorem gr4_ok {K : PySem.W.Frag} (h : gr4 K = true) : (PySem.W.nsIn K (Sh.kwA K (Sh.gA K "fit")) "arms" = some (some (.int 2 (Sh.tokI K (Sh.kwA K (Sh.gA K "fit")) "arms")))) ∧ (PySem.W.nsIn K mainGlobals "can_fit" = some (some (.ref (Sh.gA K "can_fit")))) ∧ (PySem.W.nsIn K (Sh.kwA K (Sh.gA K "can_fit")) "arms" = some (some (.int 2 (Sh.tokI K (Sh.kwA K (Sh.gA K "can_fit")) "arms")))) ∧ (PySem.W.nsIn K mainGlobals "told_bounds" = some (some (.ref (Sh.gA K "told_bounds")))) ∧ (PySem.W.nsIn K (Sh.kwA K (Sh.gA K "told_bounds")) "arms" = some (some (.int 2 (Sh.tokI K (Sh.kwA K (Sh.gA K "told_bounds")) "arms")))) ∧ (PySem.W.nsIn K mainGlobals "ranks_within" = some (some (.ref (Sh.gA K "ranks_within")))) ∧ (PySem.W.nsIn K (Sh.kwA K (Sh.gA K "ranks_within")) "arms" = some (some (.int 2 (Sh.tokI K (Sh.kwA K (Sh.gA K "ranks_within")) "arms")))) ∧ (PySem.W.nsIn K mainGlobals "check_bounds" = some (some (.ref (Sh.gA K "check_bounds")))) ∧ (PySem.W.nsIn K mainGlobals "is_pair_of_ranks" = some (some (.ref (Sh.gA K "is_pair_of_ranks")))) ∧ (PySem.W.nsIn K mainGlobals "is_within" = some (some (.ref (Sh.gA K "is_within")))) ∧ (PySem.W.nsIn K mainGlobals "places_inside" = some (some (.ref (Sh.gA K "places_inside")))) ∧ (PySem.W.nsIn K mainGlobals "is_crowd" = some (some (.ref (Sh.gA K "is_crowd")))) := by
  unfold gr4 at h
  obtain ⟨h0, h⟩ := Sh.band h
  obtain ⟨h1, h⟩ := Sh.band h
  obtain ⟨h2, h⟩ := Sh.band h
  obtain ⟨h3, h⟩ := Sh.band h
  obtain ⟨h4, h⟩ := Sh.band h
  obtain ⟨h5, h⟩ := Sh.band h
  obtain ⟨h6, h⟩ := Sh.band h
  obtain ⟨h7, h⟩ := Sh.band h
  obtain ⟨h8, h⟩ := Sh.band h
  obtain ⟨h9, h⟩ := Sh.band h
  obtain ⟨h10, h⟩ := Sh.band h
  exact ⟨of_decide_eq_true h0, of_decide_eq_true h1, of_decide_eq_true h2, of_decide_eq_true h3, of_decide_eq_true h4, of_decide_eq_true h5, of_decide_eq_true h6, of_decide_eq_true h7, of_decide_eq_true h8, of_decide_eq_true h9, of_decide_eq_true h10, of_decide_eq_true h⟩
def gr5 (K : PySem.W.Frag) : Bool := decide (PySem.W.nsIn K mainGlobals "most_urgent_first" = some (some (.ref (Sh.gA K "most_urgent_first")))) && (decide (PySem.W.nsIn K mainGlobals "can_have" = some (some (.ref (Sh.gA K "can_have")))) && (decide (PySem.W.nsIn K mainGlobals "_law_number" = some (some (.ref (Sh.gA K "_law_number")))) && (decide (PySem.W.nsIn K mainGlobals "_law_take" = some (some (.ref (Sh.gA K "_law_take")))) && (decide (PySem.W.nsIn K mainGlobals "_law_pick" = some (some (.ref (Sh.gA K "_law_pick")))) && (decide (PySem.W.nsIn K mainGlobals "_law_parent" = some (some (.ref (Sh.gA K "_law_parent")))) && (decide (PySem.W.nsIn K mainGlobals "_law_way" = some (some (.ref (Sh.gA K "_law_way")))) && (decide (PySem.W.nsIn K mainGlobals "_law_subtree" = some (some (.ref (Sh.gA K "_law_subtree")))) && (decide (PySem.W.nsIn K mainGlobals "_law_arms" = some (some (.ref (Sh.gA K "_law_arms")))) && (decide (PySem.W.nsIn K mainGlobals "_law_order" = some (some (.ref (Sh.gA K "_law_order")))) && (decide (PySem.W.nsIn K mainGlobals "_law_is_heap" = some (some (.ref (Sh.gA K "_law_is_heap")))) && (decide (PySem.W.nsIn K mainGlobals "_law_heap" = some (some (.ref (Sh.gA K "_law_heap")))))))))))))))
theorem gr5_ok {K : PySem.W.Frag} (h : gr5 K = true) : (PySem.W.nsIn K mainGlobals "most_urgent_first" = some (some (.ref (Sh.gA K "most_urgent_first")))) ∧ (PySem.W.nsIn K mainGlobals "can_have" = some (some (.ref (Sh.gA K "can_have")))) ∧ (PySem.W.nsIn K mainGlobals "_law_number" = some (some (.ref (Sh.gA K "_law_number")))) ∧ (PySem.W.nsIn K mainGlobals "_law_take" = some (some (.ref (Sh.gA K "_law_take")))) ∧ (PySem.W.nsIn K mainGlobals "_law_pick" = some (some (.ref (Sh.gA K "_law_pick")))) ∧ (PySem.W.nsIn K mainGlobals "_law_parent" = some (some (.ref (Sh.gA K "_law_parent")))) ∧ (PySem.W.nsIn K mainGlobals "_law_way" = some (some (.ref (Sh.gA K "_law_way")))) ∧ (PySem.W.nsIn K mainGlobals "_law_subtree" = some (some (.ref (Sh.gA K "_law_subtree")))) ∧ (PySem.W.nsIn K mainGlobals "_law_arms" = some (some (.ref (Sh.gA K "_law_arms")))) ∧ (PySem.W.nsIn K mainGlobals "_law_order" = some (some (.ref (Sh.gA K "_law_order")))) ∧ (PySem.W.nsIn K mainGlobals "_law_is_heap" = some (some (.ref (Sh.gA K "_law_is_heap")))) ∧ (PySem.W.nsIn K mainGlobals "_law_heap" = some (some (.ref (Sh.gA K "_law_heap")))) := by
  unfold gr5 at h
  obtain ⟨h0, h⟩ := Sh.band h
  obtain ⟨h1, h⟩ := Sh.band h
  obtain ⟨h2, h⟩ := Sh.band h
  obtain ⟨h3, h⟩ := Sh.band h
  obtain ⟨h4, h⟩ := Sh.band h
  obtain ⟨h5, h⟩ := Sh.band h
  obtain ⟨h6, h⟩ := Sh.band h
  obtain ⟨h7, h⟩ := Sh.band h
  obtain ⟨h8, h⟩ := Sh.band h
  obtain ⟨h9, h⟩ := Sh.band h
  obtain ⟨h10, h⟩ := Sh.band h
  exact ⟨of_decide_eq_true h0, of_decide_eq_true h1, of_decide_eq_true h2, of_decide_eq_true h3, of_decide_eq_true h4, of_decide_eq_true h5, of_decide_eq_true h6, of_decide_eq_true h7, of_decide_eq_true h8, of_decide_eq_true h9, of_decide_eq_true h10, of_decide_eq_true h⟩
def gr6 (K : PySem.W.Frag) : Bool := decide (PySem.W.nsIn K mainGlobals "_law_pairs" = some (some (.ref (Sh.gA K "_law_pairs")))) && (decide (PySem.W.nsIn K mainGlobals "_law_near_pairs" = some (some (.ref (Sh.gA K "_law_near_pairs")))) && (decide (PySem.W.nsIn K mainGlobals "_law_must" = some (some (.ref (Sh.gA K "_law_must")))) && (decide (PySem.W.nsIn K mainGlobals "_law_fits" = some (some (.ref (Sh.gA K "_law_fits")))) && (decide (PySem.W.nsIn K mainGlobals "law" = some (some (.ref (Sh.gA K "law")))) && (decide (PySem.W.nsIn K mainGlobals "GREATEST_KEY" = some (some (.int 1000000000 (Sh.tokI K mainGlobals "GREATEST_KEY")))) && (decide (PySem.W.nsIn K mainGlobals "MOST_ARMS" = some (some (.int 4 (Sh.tokI K mainGlobals "MOST_ARMS")))) && (decide (PySem.W.nsIn K mainGlobals "MOST_PLACES" = some (some (.int 12 (Sh.tokI K mainGlobals "MOST_PLACES")))) && (decide (PySem.W.nsIn K mainGlobals "all" = some none) && (decide (PySem.W.nsIn K mainGlobals "any" = some none) && (decide (PySem.W.nsIn K mainGlobals "bool" = some none) && (decide (PySem.W.nsIn K mainGlobals "enumerate" = some none))))))))))))
theorem gr6_ok {K : PySem.W.Frag} (h : gr6 K = true) : (PySem.W.nsIn K mainGlobals "_law_pairs" = some (some (.ref (Sh.gA K "_law_pairs")))) ∧ (PySem.W.nsIn K mainGlobals "_law_near_pairs" = some (some (.ref (Sh.gA K "_law_near_pairs")))) ∧ (PySem.W.nsIn K mainGlobals "_law_must" = some (some (.ref (Sh.gA K "_law_must")))) ∧ (PySem.W.nsIn K mainGlobals "_law_fits" = some (some (.ref (Sh.gA K "_law_fits")))) ∧ (PySem.W.nsIn K mainGlobals "law" = some (some (.ref (Sh.gA K "law")))) ∧ (PySem.W.nsIn K mainGlobals "GREATEST_KEY" = some (some (.int 1000000000 (Sh.tokI K mainGlobals "GREATEST_KEY")))) ∧ (PySem.W.nsIn K mainGlobals "MOST_ARMS" = some (some (.int 4 (Sh.tokI K mainGlobals "MOST_ARMS")))) ∧ (PySem.W.nsIn K mainGlobals "MOST_PLACES" = some (some (.int 12 (Sh.tokI K mainGlobals "MOST_PLACES")))) ∧ (PySem.W.nsIn K mainGlobals "all" = some none) ∧ (PySem.W.nsIn K mainGlobals "any" = some none) ∧ (PySem.W.nsIn K mainGlobals "bool" = some none) ∧ (PySem.W.nsIn K mainGlobals "enumerate" = some none) := by
  unfold gr6 at h
  obtain ⟨h0, h⟩ := Sh.band h
  obtain ⟨h1, h⟩ := Sh.band h
  obtain ⟨h2, h⟩ := Sh.band h
  obtain ⟨h3, h⟩ := Sh.band h
  obtain ⟨h4, h⟩ := Sh.band h
  obtain ⟨h5, h⟩ := Sh.band h
  obtain ⟨h6, h⟩ := Sh.band h
  obtain ⟨h7, h⟩ := Sh.band h
  obtain ⟨h8, h⟩ := Sh.band h
  obtain ⟨h9, h⟩ := Sh.band h
  obtain ⟨h10, h⟩ := Sh.band h
  exact ⟨of_decide_eq_true h0, of_decide_eq_true h1, of_decide_eq_true h2, of_decide_eq_true h3, of_decide_eq_true h4, of_decide_eq_true h5, of_decide_eq_true h6, of_decide_eq_true h7, of_decide_eq_true h8, of_decide_eq_true h9, of_decide_eq_true h10, of_decide_eq_true h⟩
def gr7 (K : PySem.W.Frag) : Bool := decide (PySem.W.nsIn K mainGlobals "int" = some none) && (decide (PySem.W.nsIn K mainGlobals "isinstance" = some none) && (decide (PySem.W.nsIn K mainGlobals "iter" = some none) && (decide (PySem.W.nsIn K mainGlobals "len" = some none) && (decide (PySem.W.nsIn K mainGlobals "list" = some none) && (decide (PySem.W.nsIn K mainGlobals "max" = some none) && (decide (PySem.W.nsIn K mainGlobals "min" = some none) && (decide (PySem.W.nsIn K mainGlobals "range" = some none) && (decide (PySem.W.nsIn K mainGlobals "reversed" = some none) && (decide (PySem.W.nsIn K mainGlobals "set" = some none) && (decide (PySem.W.nsIn K mainGlobals "sorted" = some none) && (decide (PySem.W.nsIn K mainGlobals "sum" = some none))))))))))))
theorem gr7_ok {K : PySem.W.Frag} (h : gr7 K = true) : (PySem.W.nsIn K mainGlobals "int" = some none) ∧ (PySem.W.nsIn K mainGlobals "isinstance" = some none) ∧ (PySem.W.nsIn K mainGlobals "iter" = some none) ∧ (PySem.W.nsIn K mainGlobals "len" = some none) ∧ (PySem.W.nsIn K mainGlobals "list" = some none) ∧ (PySem.W.nsIn K mainGlobals "max" = some none) ∧ (PySem.W.nsIn K mainGlobals "min" = some none) ∧ (PySem.W.nsIn K mainGlobals "range" = some none) ∧ (PySem.W.nsIn K mainGlobals "reversed" = some none) ∧ (PySem.W.nsIn K mainGlobals "set" = some none) ∧ (PySem.W.nsIn K mainGlobals "sorted" = some none) ∧ (PySem.W.nsIn K mainGlobals "sum" = some none) := by
  unfold gr7 at h
  obtain ⟨h0, h⟩ := Sh.band h
  obtain ⟨h1, h⟩ := Sh.band h
  obtain ⟨h2, h⟩ := Sh.band h
  obtain ⟨h3, h⟩ := Sh.band h
  obtain ⟨h4, h⟩ := Sh.band h
  obtain ⟨h5, h⟩ := Sh.band h
  obtain ⟨h6, h⟩ := Sh.band h
  obtain ⟨h7, h⟩ := Sh.band h
  obtain ⟨h8, h⟩ := Sh.band h
  obtain ⟨h9, h⟩ := Sh.band h
  obtain ⟨h10, h⟩ := Sh.band h
  exact ⟨of_decide_eq_true h0, of_decide_eq_true h1, of_decide_eq_true h2, of_decide_eq_true h3, of_decide_eq_true h4, of_decide_eq_true h5, of_decide_eq_true h6, of_decide_eq_true h7, of_decide_eq_true h8, of_decide_eq_true h9, of_decide_eq_true h10, of_decide_eq_true h⟩
def gr8 (K : PySem.W.Frag) : Bool := decide (PySem.W.nsIn K mainGlobals "tuple" = some none) && (decide (PySem.W.nsIn K mainGlobals "zip" = some none) && (decide (PySem.W.plainGet K (Sh.gA K "Tree") Str.empty = true) && (decide (PySem.W.hasDictIn K (Sh.gA K "Tree") = true) && (decide (PySem.W.plainOver K (Sh.gA K "Tree") = true) && (decide (PySem.W.findIn K (.ref (Sh.gA K "Tree")) "__setattr__" = some (some (.builtin "object.__setattr__"))) && (decide (PySem.W.findIn K (.ref (Sh.gA K "Tree")) "many" = some none) && (decide (PySem.W.findIn K (.ref (Sh.gA K "Tree")) "arms" = some none) && (decide (PySem.W.findIn K (.ref (Sh.gA K "Tree")) "_places" = some none) && (decide (PySem.W.makesIn K (Sh.gA K "Tree") = true) && (decide (PySem.W.keepIn K (.ref (Sh.gA K "Tree")) = true) && (decide (PySem.W.readsIn K (Sh.gA K "Tree") (.type "type") = true))))))))))))
theorem gr8_ok {K : PySem.W.Frag} (h : gr8 K = true) : (PySem.W.nsIn K mainGlobals "tuple" = some none) ∧ (PySem.W.nsIn K mainGlobals "zip" = some none) ∧ (PySem.W.plainGet K (Sh.gA K "Tree") Str.empty = true) ∧ (PySem.W.hasDictIn K (Sh.gA K "Tree") = true) ∧ (PySem.W.plainOver K (Sh.gA K "Tree") = true) ∧ (PySem.W.findIn K (.ref (Sh.gA K "Tree")) "__setattr__" = some (some (.builtin "object.__setattr__"))) ∧ (PySem.W.findIn K (.ref (Sh.gA K "Tree")) "many" = some none) ∧ (PySem.W.findIn K (.ref (Sh.gA K "Tree")) "arms" = some none) ∧ (PySem.W.findIn K (.ref (Sh.gA K "Tree")) "_places" = some none) ∧ (PySem.W.makesIn K (Sh.gA K "Tree") = true) ∧ (PySem.W.keepIn K (.ref (Sh.gA K "Tree")) = true) ∧ (PySem.W.readsIn K (Sh.gA K "Tree") (.type "type") = true) := by
  unfold gr8 at h
  obtain ⟨h0, h⟩ := Sh.band h
  obtain ⟨h1, h⟩ := Sh.band h
  obtain ⟨h2, h⟩ := Sh.band h
  obtain ⟨h3, h⟩ := Sh.band h
  obtain ⟨h4, h⟩ := Sh.band h
  obtain ⟨h5, h⟩ := Sh.band h
  obtain ⟨h6, h⟩ := Sh.band h
  obtain ⟨h7, h⟩ := Sh.band h
  obtain ⟨h8, h⟩ := Sh.band h
  obtain ⟨h9, h⟩ := Sh.band h
  obtain ⟨h10, h⟩ := Sh.band h
  exact ⟨of_decide_eq_true h0, of_decide_eq_true h1, of_decide_eq_true h2, of_decide_eq_true h3, of_decide_eq_true h4, of_decide_eq_true h5, of_decide_eq_true h6, of_decide_eq_true h7, of_decide_eq_true h8, of_decide_eq_true h9, of_decide_eq_true h10, of_decide_eq_true h⟩
def gr9 (K : PySem.W.Frag) : Bool := decide (PySem.W.specialIn K (.ref (Sh.gA K "Tree")) "__getattribute__" = some (some (.builtin "type.__getattribute__"))) && (decide (PySem.W.plainGet K (Sh.gA K "Fitted") Str.empty = true) && (decide (PySem.W.hasDictIn K (Sh.gA K "Fitted") = true) && (decide (PySem.W.plainOver K (Sh.gA K "Fitted") = true) && (decide (PySem.W.findIn K (.ref (Sh.gA K "Fitted")) "__setattr__" = some (some (.builtin "object.__setattr__"))) && (decide (PySem.W.findIn K (.ref (Sh.gA K "Fitted")) "row" = some none) && (decide (PySem.W.makesIn K (Sh.gA K "Fitted") = true) && (decide (PySem.W.keepIn K (.ref (Sh.gA K "Fitted")) = true) && (decide (PySem.W.findIn K (.ref (Sh.gA K "Fitted")) "__class__" = some (some (.builtin "object.__class__"))) && (decide (PySem.W.specialIn K (.builtin "object.__class__") "__get__" = some (some (.builtin "getset_descriptor.__get__"))) && (decide (PySem.W.takesIn K (.builtin "object.__class__") = some true) && (decide (PySem.W.mroIn K (Sh.gA K "Fitted") (.type "object") = some true))))))))))))
theorem gr9_ok {K : PySem.W.Frag} (h : gr9 K = true) : (PySem.W.specialIn K (.ref (Sh.gA K "Tree")) "__getattribute__" = some (some (.builtin "type.__getattribute__"))) ∧ (PySem.W.plainGet K (Sh.gA K "Fitted") Str.empty = true) ∧ (PySem.W.hasDictIn K (Sh.gA K "Fitted") = true) ∧ (PySem.W.plainOver K (Sh.gA K "Fitted") = true) ∧ (PySem.W.findIn K (.ref (Sh.gA K "Fitted")) "__setattr__" = some (some (.builtin "object.__setattr__"))) ∧ (PySem.W.findIn K (.ref (Sh.gA K "Fitted")) "row" = some none) ∧ (PySem.W.makesIn K (Sh.gA K "Fitted") = true) ∧ (PySem.W.keepIn K (.ref (Sh.gA K "Fitted")) = true) ∧ (PySem.W.findIn K (.ref (Sh.gA K "Fitted")) "__class__" = some (some (.builtin "object.__class__"))) ∧ (PySem.W.specialIn K (.builtin "object.__class__") "__get__" = some (some (.builtin "getset_descriptor.__get__"))) ∧ (PySem.W.takesIn K (.builtin "object.__class__") = some true) ∧ (PySem.W.mroIn K (Sh.gA K "Fitted") (.type "object") = some true) := by
  unfold gr9 at h
  obtain ⟨h0, h⟩ := Sh.band h
  obtain ⟨h1, h⟩ := Sh.band h
  obtain ⟨h2, h⟩ := Sh.band h
  obtain ⟨h3, h⟩ := Sh.band h
  obtain ⟨h4, h⟩ := Sh.band h
  obtain ⟨h5, h⟩ := Sh.band h
  obtain ⟨h6, h⟩ := Sh.band h
  obtain ⟨h7, h⟩ := Sh.band h
  obtain ⟨h8, h⟩ := Sh.band h
  obtain ⟨h9, h⟩ := Sh.band h
  obtain ⟨h10, h⟩ := Sh.band h
  exact ⟨of_decide_eq_true h0, of_decide_eq_true h1, of_decide_eq_true h2, of_decide_eq_true h3, of_decide_eq_true h4, of_decide_eq_true h5, of_decide_eq_true h6, of_decide_eq_true h7, of_decide_eq_true h8, of_decide_eq_true h9, of_decide_eq_true h10, of_decide_eq_true h⟩
def gr10 (K : PySem.W.Frag) : Bool := decide (PySem.W.isClsIn K (Sh.gA K "Fitted") = true) && (decide (PySem.W.typeIn K (.ref (Sh.gA K "Fitted")) = some (.type "type")) && (decide (PySem.W.subIn K (.ref (Sh.gA K "Crowded")) (.ref (Sh.gA K "Fitted")) = some false) && (decide (((Sh.gA K "Crowded") == (Sh.gA K "Fitted")) = false) && (decide (PySem.W.plainGet K (Sh.gA K "Crowded") Str.empty = true) && (decide (PySem.W.hasDictIn K (Sh.gA K "Crowded") = true) && (decide (PySem.W.plainOver K (Sh.gA K "Crowded") = true) && (decide (PySem.W.findIn K (.ref (Sh.gA K "Crowded")) "__setattr__" = some (some (.builtin "object.__setattr__"))) && (decide (PySem.W.findIn K (.ref (Sh.gA K "Crowded")) "first" = some none) && (decide (PySem.W.findIn K (.ref (Sh.gA K "Crowded")) "last" = some none) && (decide (PySem.W.findIn K (.ref (Sh.gA K "Crowded")) "places" = some none) && (decide (PySem.W.makesIn K (Sh.gA K "Crowded") = true))))))))))))
theorem gr10_ok {K : PySem.W.Frag} (h : gr10 K = true) : (PySem.W.isClsIn K (Sh.gA K "Fitted") = true) ∧ (PySem.W.typeIn K (.ref (Sh.gA K "Fitted")) = some (.type "type")) ∧ (PySem.W.subIn K (.ref (Sh.gA K "Crowded")) (.ref (Sh.gA K "Fitted")) = some false) ∧ (((Sh.gA K "Crowded") == (Sh.gA K "Fitted")) = false) ∧ (PySem.W.plainGet K (Sh.gA K "Crowded") Str.empty = true) ∧ (PySem.W.hasDictIn K (Sh.gA K "Crowded") = true) ∧ (PySem.W.plainOver K (Sh.gA K "Crowded") = true) ∧ (PySem.W.findIn K (.ref (Sh.gA K "Crowded")) "__setattr__" = some (some (.builtin "object.__setattr__"))) ∧ (PySem.W.findIn K (.ref (Sh.gA K "Crowded")) "first" = some none) ∧ (PySem.W.findIn K (.ref (Sh.gA K "Crowded")) "last" = some none) ∧ (PySem.W.findIn K (.ref (Sh.gA K "Crowded")) "places" = some none) ∧ (PySem.W.makesIn K (Sh.gA K "Crowded") = true) := by
  unfold gr10 at h
  obtain ⟨h0, h⟩ := Sh.band h
  obtain ⟨h1, h⟩ := Sh.band h
  obtain ⟨h2, h⟩ := Sh.band h
  obtain ⟨h3, h⟩ := Sh.band h
  obtain ⟨h4, h⟩ := Sh.band h
  obtain ⟨h5, h⟩ := Sh.band h
  obtain ⟨h6, h⟩ := Sh.band h
  obtain ⟨h7, h⟩ := Sh.band h
  obtain ⟨h8, h⟩ := Sh.band h
  obtain ⟨h9, h⟩ := Sh.band h
  obtain ⟨h10, h⟩ := Sh.band h
  exact ⟨of_decide_eq_true h0, of_decide_eq_true h1, of_decide_eq_true h2, of_decide_eq_true h3, of_decide_eq_true h4, of_decide_eq_true h5, of_decide_eq_true h6, of_decide_eq_true h7, of_decide_eq_true h8, of_decide_eq_true h9, of_decide_eq_true h10, of_decide_eq_true h⟩
def gr11 (K : PySem.W.Frag) : Bool := decide (PySem.W.keepIn K (.ref (Sh.gA K "Crowded")) = true) && (decide (PySem.W.findIn K (.ref (Sh.gA K "Crowded")) "__class__" = some (some (.builtin "object.__class__"))) && (decide (PySem.W.specialIn K (.builtin "object.__class__") "__get__" = some (some (.builtin "getset_descriptor.__get__"))) && (decide (PySem.W.takesIn K (.builtin "object.__class__") = some true) && (decide (PySem.W.mroIn K (Sh.gA K "Crowded") (.type "object") = some true) && (decide (PySem.W.isClsIn K (Sh.gA K "Crowded") = true) && (decide (PySem.W.typeIn K (.ref (Sh.gA K "Crowded")) = some (.type "type")) && (decide (PySem.W.subIn K (.ref (Sh.gA K "Fitted")) (.ref (Sh.gA K "Crowded")) = some false) && (decide (((Sh.gA K "Fitted") == (Sh.gA K "Crowded")) = false) && (Sh.fnB K (Sh.gA K "is_integer") "is_integer" false && (Sh.fnB K (Sh.gA K "is_integer_from") "is_integer_from" false && (Sh.fnB K (Sh.gA K "is_key") "is_key" false)))))))))))
theorem gr11_ok {K : PySem.W.Frag} (h : gr11 K = true) : (PySem.W.keepIn K (.ref (Sh.gA K "Crowded")) = true) ∧ (PySem.W.findIn K (.ref (Sh.gA K "Crowded")) "__class__" = some (some (.builtin "object.__class__"))) ∧ (PySem.W.specialIn K (.builtin "object.__class__") "__get__" = some (some (.builtin "getset_descriptor.__get__"))) ∧ (PySem.W.takesIn K (.builtin "object.__class__") = some true) ∧ (PySem.W.mroIn K (Sh.gA K "Crowded") (.type "object") = some true) ∧ (PySem.W.isClsIn K (Sh.gA K "Crowded") = true) ∧ (PySem.W.typeIn K (.ref (Sh.gA K "Crowded")) = some (.type "type")) ∧ (PySem.W.subIn K (.ref (Sh.gA K "Fitted")) (.ref (Sh.gA K "Crowded")) = some false) ∧ (((Sh.gA K "Fitted") == (Sh.gA K "Crowded")) = false) ∧ (Sh.fnB K (Sh.gA K "is_integer") "is_integer" false = true) ∧ (Sh.fnB K (Sh.gA K "is_integer_from") "is_integer_from" false = true) ∧ (Sh.fnB K (Sh.gA K "is_key") "is_key" false = true) := by
  unfold gr11 at h
  obtain ⟨h0, h⟩ := Sh.band h
  obtain ⟨h1, h⟩ := Sh.band h
  obtain ⟨h2, h⟩ := Sh.band h
  obtain ⟨h3, h⟩ := Sh.band h
  obtain ⟨h4, h⟩ := Sh.band h
  obtain ⟨h5, h⟩ := Sh.band h
  obtain ⟨h6, h⟩ := Sh.band h
  obtain ⟨h7, h⟩ := Sh.band h
  obtain ⟨h8, h⟩ := Sh.band h
  obtain ⟨h9, h⟩ := Sh.band h
  obtain ⟨h10, h⟩ := Sh.band h
  exact ⟨of_decide_eq_true h0, of_decide_eq_true h1, of_decide_eq_true h2, of_decide_eq_true h3, of_decide_eq_true h4, of_decide_eq_true h5, of_decide_eq_true h6, of_decide_eq_true h7, of_decide_eq_true h8, h9, h10, h⟩
def gr12 (K : PySem.W.Frag) : Bool := Sh.fnB K (Sh.gA K "check_arms") "check_arms" false && (Sh.fnB K (Sh.gA K "check_many") "check_many" false && (Sh.fnB K (Sh.gA K "check_place") "check_place" false && (Sh.fnB K (Sh.gA K "row_of") "row_of" false && (Sh.fnB K (Sh.gA K "is_full") "is_full" false && (Sh.fnB K (Sh.mA K (Sh.gA K "Tree") "__init__") "Tree.__init__" true && (Sh.fnB K (Sh.recA K (Sh.clsA K (Sh.gA K "Tree") "of") "classmethod") "Tree.of" true && (Sh.fnB K (Sh.mA K (Sh.gA K "Tree") "__len__") "Tree.__len__" false && (Sh.fnB K (Sh.mA K (Sh.gA K "Tree") "__contains__") "Tree.__contains__" false && (Sh.fnB K (Sh.mA K (Sh.gA K "Tree") "__iter__") "Tree.__iter__" false && (Sh.fnB K (Sh.mA K (Sh.gA K "Tree") "__getitem__") "Tree.__getitem__" false && (Sh.fnB K (Sh.mA K (Sh.gA K "Tree") "parent") "Tree.parent" false)))))))))))
theorem gr12_ok {K : PySem.W.Frag} (h : gr12 K = true) : (Sh.fnB K (Sh.gA K "check_arms") "check_arms" false = true) ∧ (Sh.fnB K (Sh.gA K "check_many") "check_many" false = true) ∧ (Sh.fnB K (Sh.gA K "check_place") "check_place" false = true) ∧ (Sh.fnB K (Sh.gA K "row_of") "row_of" false = true) ∧ (Sh.fnB K (Sh.gA K "is_full") "is_full" false = true) ∧ (Sh.fnB K (Sh.mA K (Sh.gA K "Tree") "__init__") "Tree.__init__" true = true) ∧ (Sh.fnB K (Sh.recA K (Sh.clsA K (Sh.gA K "Tree") "of") "classmethod") "Tree.of" true = true) ∧ (Sh.fnB K (Sh.mA K (Sh.gA K "Tree") "__len__") "Tree.__len__" false = true) ∧ (Sh.fnB K (Sh.mA K (Sh.gA K "Tree") "__contains__") "Tree.__contains__" false = true) ∧ (Sh.fnB K (Sh.mA K (Sh.gA K "Tree") "__iter__") "Tree.__iter__" false = true) ∧ (Sh.fnB K (Sh.mA K (Sh.gA K "Tree") "__getitem__") "Tree.__getitem__" false = true) ∧ (Sh.fnB K (Sh.mA K (Sh.gA K "Tree") "parent") "Tree.parent" false = true) := by
  unfold gr12 at h
  obtain ⟨h0, h⟩ := Sh.band h
  obtain ⟨h1, h⟩ := Sh.band h
  obtain ⟨h2, h⟩ := Sh.band h
  obtain ⟨h3, h⟩ := Sh.band h
  obtain ⟨h4, h⟩ := Sh.band h
  obtain ⟨h5, h⟩ := Sh.band h
  obtain ⟨h6, h⟩ := Sh.band h
  obtain ⟨h7, h⟩ := Sh.band h
  obtain ⟨h8, h⟩ := Sh.band h
  obtain ⟨h9, h⟩ := Sh.band h
  obtain ⟨h10, h⟩ := Sh.band h
  exact ⟨h0, h1, h2, h3, h4, h5, h6, h7, h8, h9, h10, h⟩
def gr13 (K : PySem.W.Frag) : Bool := Sh.fnB K (Sh.gA K "is_heap") "is_heap" true && (Sh.fnB K (Sh.gA K "faults") "faults" true && (Sh.fnB K (Sh.gA K "is_full_heap") "is_full_heap" false && (Sh.fnB K (Sh.mA K (Sh.gA K "Fitted") "__init__") "Fitted.__init__" false && (Sh.fnB K (Sh.mA K (Sh.gA K "Fitted") "shows") "Fitted.shows" true && (Sh.fnB K (Sh.mA K (Sh.gA K "Crowded") "__init__") "Crowded.__init__" false && (Sh.fnB K (Sh.mA K (Sh.gA K "Crowded") "shows") "Crowded.shows" true && (Sh.fnB K (Sh.gA K "fit") "fit" true && (Sh.fnB K (Sh.gA K "can_fit") "can_fit" true && (Sh.fnB K (Sh.gA K "told_bounds") "told_bounds" true && (Sh.fnB K (Sh.gA K "ranks_within") "ranks_within" true && (Sh.fnB K (Sh.gA K "check_bounds") "check_bounds" false)))))))))))
theorem gr13_ok {K : PySem.W.Frag} (h : gr13 K = true) : (Sh.fnB K (Sh.gA K "is_heap") "is_heap" true = true) ∧ (Sh.fnB K (Sh.gA K "faults") "faults" true = true) ∧ (Sh.fnB K (Sh.gA K "is_full_heap") "is_full_heap" false = true) ∧ (Sh.fnB K (Sh.mA K (Sh.gA K "Fitted") "__init__") "Fitted.__init__" false = true) ∧ (Sh.fnB K (Sh.mA K (Sh.gA K "Fitted") "shows") "Fitted.shows" true = true) ∧ (Sh.fnB K (Sh.mA K (Sh.gA K "Crowded") "__init__") "Crowded.__init__" false = true) ∧ (Sh.fnB K (Sh.mA K (Sh.gA K "Crowded") "shows") "Crowded.shows" true = true) ∧ (Sh.fnB K (Sh.gA K "fit") "fit" true = true) ∧ (Sh.fnB K (Sh.gA K "can_fit") "can_fit" true = true) ∧ (Sh.fnB K (Sh.gA K "told_bounds") "told_bounds" true = true) ∧ (Sh.fnB K (Sh.gA K "ranks_within") "ranks_within" true = true) ∧ (Sh.fnB K (Sh.gA K "check_bounds") "check_bounds" false = true) := by
  unfold gr13 at h
  obtain ⟨h0, h⟩ := Sh.band h
  obtain ⟨h1, h⟩ := Sh.band h
  obtain ⟨h2, h⟩ := Sh.band h
  obtain ⟨h3, h⟩ := Sh.band h
  obtain ⟨h4, h⟩ := Sh.band h
  obtain ⟨h5, h⟩ := Sh.band h
  obtain ⟨h6, h⟩ := Sh.band h
  obtain ⟨h7, h⟩ := Sh.band h
  obtain ⟨h8, h⟩ := Sh.band h
  obtain ⟨h9, h⟩ := Sh.band h
  obtain ⟨h10, h⟩ := Sh.band h
  exact ⟨h0, h1, h2, h3, h4, h5, h6, h7, h8, h9, h10, h⟩
def gr14 (K : PySem.W.Frag) : Bool := Sh.fnB K (Sh.gA K "is_pair_of_ranks") "is_pair_of_ranks" false && (Sh.fnB K (Sh.gA K "is_within") "is_within" false && (Sh.fnB K (Sh.gA K "places_inside") "places_inside" false && (Sh.fnB K (Sh.gA K "is_crowd") "is_crowd" false && (Sh.fnB K (Sh.gA K "most_urgent_first") "most_urgent_first" false && (Sh.fnB K (Sh.gA K "can_have") "can_have" false && (Sh.fnB K (Sh.gA K "_law_number") "_law_number" false && (Sh.fnB K (Sh.gA K "_law_take") "_law_take" false && (Sh.fnB K (Sh.gA K "_law_pick") "_law_pick" false && (Sh.fnB K (Sh.gA K "_law_parent") "_law_parent" false && (Sh.fnB K (Sh.gA K "_law_way") "_law_way" false && (Sh.fnB K (Sh.gA K "_law_subtree") "_law_subtree" false)))))))))))
theorem gr14_ok {K : PySem.W.Frag} (h : gr14 K = true) : (Sh.fnB K (Sh.gA K "is_pair_of_ranks") "is_pair_of_ranks" false = true) ∧ (Sh.fnB K (Sh.gA K "is_within") "is_within" false = true) ∧ (Sh.fnB K (Sh.gA K "places_inside") "places_inside" false = true) ∧ (Sh.fnB K (Sh.gA K "is_crowd") "is_crowd" false = true) ∧ (Sh.fnB K (Sh.gA K "most_urgent_first") "most_urgent_first" false = true) ∧ (Sh.fnB K (Sh.gA K "can_have") "can_have" false = true) ∧ (Sh.fnB K (Sh.gA K "_law_number") "_law_number" false = true) ∧ (Sh.fnB K (Sh.gA K "_law_take") "_law_take" false = true) ∧ (Sh.fnB K (Sh.gA K "_law_pick") "_law_pick" false = true) ∧ (Sh.fnB K (Sh.gA K "_law_parent") "_law_parent" false = true) ∧ (Sh.fnB K (Sh.gA K "_law_way") "_law_way" false = true) ∧ (Sh.fnB K (Sh.gA K "_law_subtree") "_law_subtree" false = true) := by
  unfold gr14 at h
  obtain ⟨h0, h⟩ := Sh.band h
  obtain ⟨h1, h⟩ := Sh.band h
  obtain ⟨h2, h⟩ := Sh.band h
  obtain ⟨h3, h⟩ := Sh.band h
  obtain ⟨h4, h⟩ := Sh.band h
  obtain ⟨h5, h⟩ := Sh.band h
  obtain ⟨h6, h⟩ := Sh.band h
  obtain ⟨h7, h⟩ := Sh.band h
  obtain ⟨h8, h⟩ := Sh.band h
  obtain ⟨h9, h⟩ := Sh.band h
  obtain ⟨h10, h⟩ := Sh.band h
  exact ⟨h0, h1, h2, h3, h4, h5, h6, h7, h8, h9, h10, h⟩
def gr15 (K : PySem.W.Frag) : Bool := Sh.fnB K (Sh.gA K "_law_arms") "_law_arms" false && (Sh.fnB K (Sh.gA K "_law_order") "_law_order" false && (Sh.fnB K (Sh.gA K "_law_is_heap") "_law_is_heap" false && (Sh.fnB K (Sh.gA K "_law_heap") "_law_heap" false && (Sh.fnB K (Sh.gA K "_law_pairs") "_law_pairs" false && (Sh.fnB K (Sh.gA K "_law_near_pairs") "_law_near_pairs" false && (Sh.fnB K (Sh.gA K "_law_must") "_law_must" false && (Sh.fnB K (Sh.gA K "_law_fits") "_law_fits" false && (Sh.fnB K (Sh.gA K "law") "law" false))))))))
theorem gr15_ok {K : PySem.W.Frag} (h : gr15 K = true) : (Sh.fnB K (Sh.gA K "_law_arms") "_law_arms" false = true) ∧ (Sh.fnB K (Sh.gA K "_law_order") "_law_order" false = true) ∧ (Sh.fnB K (Sh.gA K "_law_is_heap") "_law_is_heap" false = true) ∧ (Sh.fnB K (Sh.gA K "_law_heap") "_law_heap" false = true) ∧ (Sh.fnB K (Sh.gA K "_law_pairs") "_law_pairs" false = true) ∧ (Sh.fnB K (Sh.gA K "_law_near_pairs") "_law_near_pairs" false = true) ∧ (Sh.fnB K (Sh.gA K "_law_must") "_law_must" false = true) ∧ (Sh.fnB K (Sh.gA K "_law_fits") "_law_fits" false = true) ∧ (Sh.fnB K (Sh.gA K "law") "law" false = true) := by
  unfold gr15 at h
  obtain ⟨h0, h⟩ := Sh.band h
  obtain ⟨h1, h⟩ := Sh.band h
  obtain ⟨h2, h⟩ := Sh.band h
  obtain ⟨h3, h⟩ := Sh.band h
  obtain ⟨h4, h⟩ := Sh.band h
  obtain ⟨h5, h⟩ := Sh.band h
  obtain ⟨h6, h⟩ := Sh.band h
  obtain ⟨h7, h⟩ := Sh.band h
  exact ⟨h0, h1, h2, h3, h4, h5, h6, h7, h⟩
def exs (K : PySem.W.Frag) : Bool := gr0 K && (gr1 K && (gr2 K && (gr3 K && (gr4 K && (gr5 K && (gr6 K && (gr7 K && (gr8 K && (gr9 K && (gr10 K && (gr11 K && (gr12 K && (gr13 K && (gr14 K && (gr15 K)))))))))))))))
def tfs (K : PySem.W.Frag) : List (Addr × Addr) := [((Sh.cdA K (Sh.gA K "most_urgent_first")), (He.tabOf K (Sh.cdA K (Sh.gA K "most_urgent_first"))))]
def loose : List Str := (["_wall", "__name__", "HeapError", "BadArms", "BadMany", "BadPlace", "BadRow", "BadBounds", "MOST_ARMS", "MOST_PLACES", "GREATEST_KEY", "is_integer", "is_integer_from", "is_key", "check_arms", "check_many", "check_place", "row_of", "is_full", "Tree", "is_heap", "faults", "is_full_heap", "Fitted", "Crowded", "fit", "can_fit", "told_bounds", "ranks_within", "check_bounds"] : List Str) ++ (["is_pair_of_ranks", "is_within", "places_inside", "is_crowd", "most_urgent_first", "can_have", "_law_number", "_law_take", "_law_pick", "_law_parent", "_law_way", "_law_subtree", "_law_arms", "_law_order", "_law_is_heap", "_law_heap", "_law_pairs", "_law_near_pairs", "_law_must", "_law_fits"] : List Str)
def adr : List Addr := List.range 1000
abbrev hk : PySem.W.Hook := Sh.hook adr fns exs tfs
theorem run (w : World) : HandSHeadRun.RunEq R0 (PySem.W.view R0.prog [55]) hk (Sh.obT adr fns exs tfs) 20000 loose w := by
  intro os
  kernel_rfl
theorem law_at {w : World} {h : Heap} {mg : Str → Option Value} {fa : Addr} {K : PySem.W.Frag} (X : K.In h) (c : Sh.Tells fns exs tfs h K) (G : h.Ns mainGlobals mg) (hfa : mg "law" = some (.ref fa)) : LamX.LawAtS PySem.Challenge.rw_heaprows_k15_whole_bounds_long w K CX0 18 63 "script" mg fa h := by
  have h := c.ex
  unfold exs at h
  obtain ⟨e0, h⟩ := Sh.band h
  obtain ⟨e1, h⟩ := Sh.band h
  obtain ⟨e2, h⟩ := Sh.band h
  obtain ⟨e3, h⟩ := Sh.band h
  obtain ⟨e4, h⟩ := Sh.band h
  obtain ⟨e5, h⟩ := Sh.band h
  obtain ⟨e6, h⟩ := Sh.band h
  obtain ⟨e7, h⟩ := Sh.band h
  obtain ⟨e8, h⟩ := Sh.band h
  obtain ⟨e9, h⟩ := Sh.band h
  obtain ⟨e10, h⟩ := Sh.band h
  obtain ⟨e11, h⟩ := Sh.band h
  obtain ⟨e12, h⟩ := Sh.band h
  obtain ⟨e13, h⟩ := Sh.band h
  obtain ⟨e14, h⟩ := Sh.band h
  obtain ⟨h_aC, h_aCF, h_aCC, h_a_is_integer, h_a_is_integer_from, h_a_is_key, h_a_check_arms, h_a_check_many, h_a_check_place, h_a_row_of, h_a_is_full, h_a_t___init__⟩ := gr0_ok e0
  obtain ⟨h_i_t___init__, h_w_t___init__, h_a_t_of, h_r_t_of, h_n_t_of, h_w_t_of, h_a_t___len__, h_i_t___len__, h_n_t___len__, h_a_t___contains__, h_i_t___contains__, h_n_t___contains__⟩ := gr1_ok e1
  obtain ⟨h_a_t___iter__, h_i_t___iter__, h_n_t___iter__, h_a_t___getitem__, h_i_t___getitem__, h_n_t___getitem__, h_a_t_parent, h_i_t_parent, h_a_is_heap, h_w_is_heap, h_a_faults, h_w_faults⟩ := gr2_ok e2
  obtain ⟨h_a_is_full_heap, h_a_f___init__, h_i_f___init__, h_a_f_shows, h_i_f_shows, h_w_f_shows, h_a_c___init__, h_i_c___init__, h_a_c_shows, h_i_c_shows, h_w_c_shows, h_a_fit⟩ := gr3_ok e3
  obtain ⟨h_w_fit, h_a_can_fit, h_w_can_fit, h_a_told_bounds, h_w_told_bounds, h_a_ranks_within, h_w_ranks_within, h_a_check_bounds, h_a_is_pair_of_ranks, h_a_is_within, h_a_places_inside, h_a_is_crowd⟩ := gr4_ok e4
  obtain ⟨h_a_most_urgent_first, h_a_can_have, h_a__law_number, h_a__law_take, h_a__law_pick, h_a__law_parent, h_a__law_way, h_a__law_subtree, h_a__law_arms, h_a__law_order, h_a__law_is_heap, h_a__law_heap⟩ := gr5_ok e5
  obtain ⟨h_a__law_pairs, h_a__law_near_pairs, h_a__law_must, h_a__law_fits, h_a_law, h_q_GREATEST_KEY, h_q_MOST_ARMS, h_q_MOST_PLACES, h_z_all, h_z_any, h_z_bool, h_z_enumerate⟩ := gr6_ok e6
  obtain ⟨h_z_int, h_z_isinstance, h_z_iter, h_z_len, h_z_list, h_z_max, h_z_min, h_z_range, h_z_reversed, h_z_set, h_z_sorted, h_z_sum⟩ := gr7_ok e7
  obtain ⟨h_z_tuple, h_z_zip, h_pg, h_hd, h_po_, h_sa, h_na_nMany, h_na_nArms, h_na_nPl, h_mk, h_kc, h_rd⟩ := gr8_ok e8
  obtain ⟨h_ga, h_pgF, h_hdF, h_po_F, h_saF, h_na_fRow, h_mkF, h_kcF, h_kaF, h_knF, h_ktkF, h_kmF⟩ := gr9_ok e9
  obtain ⟨h_kclF, h_ktyF, h_ensF_Crowded, h_nesF_Crowded, h_pgC, h_hdC, h_po_C, h_saC, h_na_cFirst, h_na_cLast, h_na_cPlaces, h_mkC⟩ := gr10_ok e10
  obtain ⟨h_kcC, h_kaC, h_knC, h_ktkC, h_kmC, h_kclC, h_ktyC, h_ensC_Fitted, h_nesC_Fitted, h_b_is_integer, h_b_is_integer_from, h_b_is_key⟩ := gr11_ok e11
  obtain ⟨h_b_check_arms, h_b_check_many, h_b_check_place, h_b_row_of, h_b_is_full, h_b_t___init__, h_b_t_of, h_b_t___len__, h_b_t___contains__, h_b_t___iter__, h_b_t___getitem__, h_b_t_parent⟩ := gr12_ok e12
  obtain ⟨h_b_is_heap, h_b_faults, h_b_is_full_heap, h_b_f___init__, h_b_f_shows, h_b_c___init__, h_b_c_shows, h_b_fit, h_b_can_fit, h_b_told_bounds, h_b_ranks_within, h_b_check_bounds⟩ := gr13_ok e13
  obtain ⟨h_b_is_pair_of_ranks, h_b_is_within, h_b_places_inside, h_b_is_crowd, h_b_most_urgent_first, h_b_can_have, h_b__law_number, h_b__law_take, h_b__law_pick, h_b__law_parent, h_b__law_way, h_b__law_subtree⟩ := gr14_ok e14
  obtain ⟨h_b__law_arms, h_b__law_order, h_b__law_is_heap, h_b__law_heap, h_b__law_pairs, h_b__law_near_pairs, h_b__law_must, h_b__law_fits, h_b_law⟩ := gr15_ok h
  obtain ⟨_, _, _, _, _, _, _, _, _, h_l_is_integer, h_c_is_integer, h_k_is_integer⟩ := Sh.fn_g (d := q_is_integer) (p := (Sh.gA K "is_integer")) (c.fn q_is_integer (Sh.at_ 0 rfl)) h_b_is_integer
  obtain ⟨_, _, _, _, _, _, _, _, _, h_l_is_integer_from, h_c_is_integer_from, h_k_is_integer_from⟩ := Sh.fn_g (d := q_is_integer_from) (p := (Sh.gA K "is_integer_from")) (c.fn q_is_integer_from (Sh.at_ 1 rfl)) h_b_is_integer_from
  obtain ⟨_, _, _, _, _, _, _, _, _, h_l_is_key, h_c_is_key, h_k_is_key⟩ := Sh.fn_g (d := q_is_key) (p := (Sh.gA K "is_key")) (c.fn q_is_key (Sh.at_ 2 rfl)) h_b_is_key
  obtain ⟨_, _, _, _, _, _, _, _, _, h_l_check_arms, h_c_check_arms, h_k_check_arms⟩ := Sh.fn_g (d := q_check_arms) (p := (Sh.gA K "check_arms")) (c.fn q_check_arms (Sh.at_ 3 rfl)) h_b_check_arms
  obtain ⟨_, _, _, _, _, _, _, _, _, h_l_check_many, h_c_check_many, h_k_check_many⟩ := Sh.fn_g (d := q_check_many) (p := (Sh.gA K "check_many")) (c.fn q_check_many (Sh.at_ 4 rfl)) h_b_check_many
  obtain ⟨_, _, _, _, _, _, _, _, _, h_l_check_place, h_c_check_place, h_k_check_place⟩ := Sh.fn_g (d := q_check_place) (p := (Sh.gA K "check_place")) (c.fn q_check_place (Sh.at_ 5 rfl)) h_b_check_place
  obtain ⟨_, _, _, _, _, _, _, _, _, h_l_row_of, h_c_row_of, h_k_row_of⟩ := Sh.fn_g (d := q_row_of) (p := (Sh.gA K "row_of")) (c.fn q_row_of (Sh.at_ 6 rfl)) h_b_row_of
  obtain ⟨_, _, _, _, _, _, _, _, _, h_l_is_full, h_c_is_full, h_k_is_full⟩ := Sh.fn_g (d := q_is_full) (p := (Sh.gA K "is_full")) (c.fn q_is_full (Sh.at_ 7 rfl)) h_b_is_full
  obtain ⟨_, _, _, _, _, _, _, _, h_l_t___init__, h_c_t___init__, h_k_t___init__⟩ := Sh.fn_k (d := q_t___init__) (p := (Sh.mA K (Sh.gA K "Tree") "__init__")) (c.fn q_t___init__ (Sh.at_ 8 rfl)) h_b_t___init__
  obtain ⟨_, _, _, _, _, _, _, _, h_l_t_of, h_c_t_of, h_k_t_of⟩ := Sh.fn_k (d := q_t_of) (p := (Sh.recA K (Sh.clsA K (Sh.gA K "Tree") "of") "classmethod")) (c.fn q_t_of (Sh.at_ 9 rfl)) h_b_t_of
  obtain ⟨_, _, _, _, _, _, _, _, _, h_l_t___len__, h_c_t___len__, h_k_t___len__⟩ := Sh.fn_g (d := q_t___len__) (p := (Sh.mA K (Sh.gA K "Tree") "__len__")) (c.fn q_t___len__ (Sh.at_ 10 rfl)) h_b_t___len__
  obtain ⟨_, _, _, _, _, _, _, _, _, h_l_t___contains__, h_c_t___contains__, h_k_t___contains__⟩ := Sh.fn_g (d := q_t___contains__) (p := (Sh.mA K (Sh.gA K "Tree") "__contains__")) (c.fn q_t___contains__ (Sh.at_ 11 rfl)) h_b_t___contains__
  obtain ⟨_, _, _, _, _, _, _, _, _, h_l_t___iter__, h_c_t___iter__, h_k_t___iter__⟩ := Sh.fn_g (d := q_t___iter__) (p := (Sh.mA K (Sh.gA K "Tree") "__iter__")) (c.fn q_t___iter__ (Sh.at_ 12 rfl)) h_b_t___iter__
  obtain ⟨_, _, _, _, _, _, _, _, _, h_l_t___getitem__, h_c_t___getitem__, h_k_t___getitem__⟩ := Sh.fn_g (d := q_t___getitem__) (p := (Sh.mA K (Sh.gA K "Tree") "__getitem__")) (c.fn q_t___getitem__ (Sh.at_ 13 rfl)) h_b_t___getitem__
  obtain ⟨_, _, _, _, _, _, _, _, _, h_l_t_parent, h_c_t_parent, h_k_t_parent⟩ := Sh.fn_g (d := q_t_parent) (p := (Sh.mA K (Sh.gA K "Tree") "parent")) (c.fn q_t_parent (Sh.at_ 14 rfl)) h_b_t_parent
  obtain ⟨_, _, _, _, _, _, _, _, h_l_is_heap, h_c_is_heap, h_k_is_heap⟩ := Sh.fn_k (d := q_is_heap) (p := (Sh.gA K "is_heap")) (c.fn q_is_heap (Sh.at_ 15 rfl)) h_b_is_heap
  obtain ⟨_, _, _, _, _, _, _, _, h_l_faults, h_c_faults, h_k_faults⟩ := Sh.fn_k (d := q_faults) (p := (Sh.gA K "faults")) (c.fn q_faults (Sh.at_ 16 rfl)) h_b_faults
  obtain ⟨_, _, _, _, _, _, _, _, _, h_l_is_full_heap, h_c_is_full_heap, h_k_is_full_heap⟩ := Sh.fn_g (d := q_is_full_heap) (p := (Sh.gA K "is_full_heap")) (c.fn q_is_full_heap (Sh.at_ 17 rfl)) h_b_is_full_heap
  obtain ⟨_, _, _, _, _, _, _, _, _, h_l_f___init__, h_c_f___init__, h_k_f___init__⟩ := Sh.fn_g (d := q_f___init__) (p := (Sh.mA K (Sh.gA K "Fitted") "__init__")) (c.fn q_f___init__ (Sh.at_ 18 rfl)) h_b_f___init__
  obtain ⟨_, _, _, _, _, _, _, _, h_l_f_shows, h_c_f_shows, h_k_f_shows⟩ := Sh.fn_k (d := q_f_shows) (p := (Sh.mA K (Sh.gA K "Fitted") "shows")) (c.fn q_f_shows (Sh.at_ 19 rfl)) h_b_f_shows
  obtain ⟨_, _, _, _, _, _, _, _, _, h_l_c___init__, h_c_c___init__, h_k_c___init__⟩ := Sh.fn_g (d := q_c___init__) (p := (Sh.mA K (Sh.gA K "Crowded") "__init__")) (c.fn q_c___init__ (Sh.at_ 20 rfl)) h_b_c___init__
  obtain ⟨_, _, _, _, _, _, _, _, h_l_c_shows, h_c_c_shows, h_k_c_shows⟩ := Sh.fn_k (d := q_c_shows) (p := (Sh.mA K (Sh.gA K "Crowded") "shows")) (c.fn q_c_shows (Sh.at_ 21 rfl)) h_b_c_shows
  obtain ⟨_, _, _, _, _, _, _, _, h_l_fit, h_c_fit, h_k_fit⟩ := Sh.fn_k (d := q_fit) (p := (Sh.gA K "fit")) (c.fn q_fit (Sh.at_ 22 rfl)) h_b_fit
  obtain ⟨_, _, _, _, _, _, _, _, h_l_can_fit, h_c_can_fit, h_k_can_fit⟩ := Sh.fn_k (d := q_can_fit) (p := (Sh.gA K "can_fit")) (c.fn q_can_fit (Sh.at_ 23 rfl)) h_b_can_fit
  obtain ⟨_, _, _, _, _, _, _, _, h_l_told_bounds, h_c_told_bounds, h_k_told_bounds⟩ := Sh.fn_k (d := q_told_bounds) (p := (Sh.gA K "told_bounds")) (c.fn q_told_bounds (Sh.at_ 24 rfl)) h_b_told_bounds
  obtain ⟨_, _, _, _, _, _, _, _, h_l_ranks_within, h_c_ranks_within, h_k_ranks_within⟩ := Sh.fn_k (d := q_ranks_within) (p := (Sh.gA K "ranks_within")) (c.fn q_ranks_within (Sh.at_ 25 rfl)) h_b_ranks_within
  obtain ⟨_, _, _, _, _, _, _, _, _, h_l_check_bounds, h_c_check_bounds, h_k_check_bounds⟩ := Sh.fn_g (d := q_check_bounds) (p := (Sh.gA K "check_bounds")) (c.fn q_check_bounds (Sh.at_ 26 rfl)) h_b_check_bounds
  obtain ⟨_, _, _, _, _, _, _, _, _, h_l_is_pair_of_ranks, h_c_is_pair_of_ranks, h_k_is_pair_of_ranks⟩ := Sh.fn_g (d := q_is_pair_of_ranks) (p := (Sh.gA K "is_pair_of_ranks")) (c.fn q_is_pair_of_ranks (Sh.at_ 27 rfl)) h_b_is_pair_of_ranks
  obtain ⟨_, _, _, _, _, _, _, _, _, h_l_is_within, h_c_is_within, h_k_is_within⟩ := Sh.fn_g (d := q_is_within) (p := (Sh.gA K "is_within")) (c.fn q_is_within (Sh.at_ 28 rfl)) h_b_is_within
  obtain ⟨_, _, _, _, _, _, _, _, _, h_l_places_inside, h_c_places_inside, h_k_places_inside⟩ := Sh.fn_g (d := q_places_inside) (p := (Sh.gA K "places_inside")) (c.fn q_places_inside (Sh.at_ 29 rfl)) h_b_places_inside
  obtain ⟨_, _, _, _, _, _, _, _, _, h_l_is_crowd, h_c_is_crowd, h_k_is_crowd⟩ := Sh.fn_g (d := q_is_crowd) (p := (Sh.gA K "is_crowd")) (c.fn q_is_crowd (Sh.at_ 30 rfl)) h_b_is_crowd
  obtain ⟨_, _, _, _, _, _, _, _, h_l_most_urgent_first, h_c_most_urgent_first, h_k_most_urgent_first⟩ := Sh.fn_c (d := q_most_urgent_first) (p := (Sh.gA K "most_urgent_first")) (c.fn q_most_urgent_first (Sh.at_ 31 rfl)) h_b_most_urgent_first
  obtain ⟨_, _, _, _, _, _, _, _, _, h_l_can_have, h_c_can_have, h_k_can_have⟩ := Sh.fn_g (d := q_can_have) (p := (Sh.gA K "can_have")) (c.fn q_can_have (Sh.at_ 32 rfl)) h_b_can_have
  obtain ⟨_, _, _, _, _, _, _, _, _, h_l__law_number, h_c__law_number, h_k__law_number⟩ := Sh.fn_g (d := q__law_number) (p := (Sh.gA K "_law_number")) (c.fn q__law_number (Sh.at_ 33 rfl)) h_b__law_number
  obtain ⟨_, _, _, _, _, _, _, _, _, h_l__law_take, h_c__law_take, h_k__law_take⟩ := Sh.fn_g (d := q__law_take) (p := (Sh.gA K "_law_take")) (c.fn q__law_take (Sh.at_ 34 rfl)) h_b__law_take
  obtain ⟨_, _, _, _, _, _, _, _, _, h_l__law_pick, h_c__law_pick, h_k__law_pick⟩ := Sh.fn_g (d := q__law_pick) (p := (Sh.gA K "_law_pick")) (c.fn q__law_pick (Sh.at_ 35 rfl)) h_b__law_pick
  obtain ⟨_, _, _, _, _, _, _, _, _, h_l__law_parent, h_c__law_parent, h_k__law_parent⟩ := Sh.fn_g (d := q__law_parent) (p := (Sh.gA K "_law_parent")) (c.fn q__law_parent (Sh.at_ 36 rfl)) h_b__law_parent
  obtain ⟨_, _, _, _, _, _, _, _, _, h_l__law_way, h_c__law_way, h_k__law_way⟩ := Sh.fn_g (d := q__law_way) (p := (Sh.gA K "_law_way")) (c.fn q__law_way (Sh.at_ 37 rfl)) h_b__law_way
  obtain ⟨_, _, _, _, _, _, _, _, _, h_l__law_subtree, h_c__law_subtree, h_k__law_subtree⟩ := Sh.fn_g (d := q__law_subtree) (p := (Sh.gA K "_law_subtree")) (c.fn q__law_subtree (Sh.at_ 38 rfl)) h_b__law_subtree
  obtain ⟨_, _, _, _, _, _, _, _, _, h_l__law_arms, h_c__law_arms, h_k__law_arms⟩ := Sh.fn_g (d := q__law_arms) (p := (Sh.gA K "_law_arms")) (c.fn q__law_arms (Sh.at_ 39 rfl)) h_b__law_arms
  obtain ⟨_, _, _, _, _, _, _, _, _, h_l__law_order, h_c__law_order, h_k__law_order⟩ := Sh.fn_g (d := q__law_order) (p := (Sh.gA K "_law_order")) (c.fn q__law_order (Sh.at_ 40 rfl)) h_b__law_order
  obtain ⟨_, _, _, _, _, _, _, _, _, h_l__law_is_heap, h_c__law_is_heap, h_k__law_is_heap⟩ := Sh.fn_g (d := q__law_is_heap) (p := (Sh.gA K "_law_is_heap")) (c.fn q__law_is_heap (Sh.at_ 41 rfl)) h_b__law_is_heap
  obtain ⟨_, _, _, _, _, _, _, _, _, h_l__law_heap, h_c__law_heap, h_k__law_heap⟩ := Sh.fn_g (d := q__law_heap) (p := (Sh.gA K "_law_heap")) (c.fn q__law_heap (Sh.at_ 42 rfl)) h_b__law_heap
  obtain ⟨_, _, _, _, _, _, _, _, _, h_l__law_pairs, h_c__law_pairs, h_k__law_pairs⟩ := Sh.fn_g (d := q__law_pairs) (p := (Sh.gA K "_law_pairs")) (c.fn q__law_pairs (Sh.at_ 43 rfl)) h_b__law_pairs
  obtain ⟨_, _, _, _, _, _, _, _, _, h_l__law_near_pairs, h_c__law_near_pairs, h_k__law_near_pairs⟩ := Sh.fn_g (d := q__law_near_pairs) (p := (Sh.gA K "_law_near_pairs")) (c.fn q__law_near_pairs (Sh.at_ 44 rfl)) h_b__law_near_pairs
  obtain ⟨_, _, _, _, _, _, _, _, _, h_l__law_must, h_c__law_must, h_k__law_must⟩ := Sh.fn_g (d := q__law_must) (p := (Sh.gA K "_law_must")) (c.fn q__law_must (Sh.at_ 45 rfl)) h_b__law_must
  obtain ⟨_, _, _, _, _, _, _, _, _, h_l__law_fits, h_c__law_fits, h_k__law_fits⟩ := Sh.fn_g (d := q__law_fits) (p := (Sh.gA K "_law_fits")) (c.fn q__law_fits (Sh.at_ 46 rfl)) h_b__law_fits
  obtain ⟨_, _, _, _, _, _, _, _, _, h_l_law, h_c_law, h_k_law⟩ := Sh.fn_g (d := q_law) (p := (Sh.gA K "law")) (c.fn q_law (Sh.at_ 47 rfl)) h_b_law
  exact all_mk X G hfa h_aC h_aCF h_aCC h_a_is_integer h_l_is_integer h_c_is_integer h_k_is_integer h_a_is_integer_from h_l_is_integer_from h_c_is_integer_from h_k_is_integer_from h_a_is_key h_l_is_key h_c_is_key h_k_is_key h_a_check_arms h_l_check_arms h_c_check_arms h_k_check_arms h_a_check_many h_l_check_many h_c_check_many h_k_check_many h_a_check_place h_l_check_place h_c_check_place h_k_check_place h_a_row_of h_l_row_of h_c_row_of h_k_row_of h_a_is_full h_l_is_full h_c_is_full h_k_is_full h_a_t___init__ h_i_t___init__ h_l_t___init__ h_c_t___init__ h_k_t___init__ h_w_t___init__ h_a_t_of h_r_t_of h_n_t_of h_l_t_of h_c_t_of h_k_t_of h_w_t_of h_a_t___len__ h_i_t___len__ h_n_t___len__ h_l_t___len__ h_c_t___len__ h_k_t___len__ h_a_t___contains__ h_i_t___contains__ h_n_t___contains__ h_l_t___contains__ h_c_t___contains__ h_k_t___contains__ h_a_t___iter__ h_i_t___iter__ h_n_t___iter__ h_l_t___iter__ h_c_t___iter__ h_k_t___iter__ h_a_t___getitem__ h_i_t___getitem__ h_n_t___getitem__ h_l_t___getitem__ h_c_t___getitem__ h_k_t___getitem__ h_a_t_parent h_i_t_parent h_l_t_parent h_c_t_parent h_k_t_parent h_a_is_heap h_l_is_heap h_c_is_heap h_k_is_heap h_w_is_heap h_a_faults h_l_faults h_c_faults h_k_faults h_w_faults h_a_is_full_heap h_l_is_full_heap h_c_is_full_heap h_k_is_full_heap h_a_f___init__ h_i_f___init__ h_l_f___init__ h_c_f___init__ h_k_f___init__ h_a_f_shows h_i_f_shows h_l_f_shows h_c_f_shows h_k_f_shows h_w_f_shows h_a_c___init__ h_i_c___init__ h_l_c___init__ h_c_c___init__ h_k_c___init__ h_a_c_shows h_i_c_shows h_l_c_shows h_c_c_shows h_k_c_shows h_w_c_shows h_a_fit h_l_fit h_c_fit h_k_fit h_w_fit h_a_can_fit h_l_can_fit h_c_can_fit h_k_can_fit h_w_can_fit h_a_told_bounds h_l_told_bounds h_c_told_bounds h_k_told_bounds h_w_told_bounds h_a_ranks_within h_l_ranks_within h_c_ranks_within h_k_ranks_within h_w_ranks_within h_a_check_bounds h_l_check_bounds h_c_check_bounds h_k_check_bounds h_a_is_pair_of_ranks h_l_is_pair_of_ranks h_c_is_pair_of_ranks h_k_is_pair_of_ranks h_a_is_within h_l_is_within h_c_is_within h_k_is_within h_a_places_inside h_l_places_inside h_c_places_inside h_k_places_inside h_a_is_crowd h_l_is_crowd h_c_is_crowd h_k_is_crowd h_a_most_urgent_first h_l_most_urgent_first h_c_most_urgent_first h_k_most_urgent_first h_a_can_have h_l_can_have h_c_can_have h_k_can_have h_a__law_number h_l__law_number h_c__law_number h_k__law_number h_a__law_take h_l__law_take h_c__law_take h_k__law_take h_a__law_pick h_l__law_pick h_c__law_pick h_k__law_pick h_a__law_parent h_l__law_parent h_c__law_parent h_k__law_parent h_a__law_way h_l__law_way h_c__law_way h_k__law_way h_a__law_subtree h_l__law_subtree h_c__law_subtree h_k__law_subtree h_a__law_arms h_l__law_arms h_c__law_arms h_k__law_arms h_a__law_order h_l__law_order h_c__law_order h_k__law_order h_a__law_is_heap h_l__law_is_heap h_c__law_is_heap h_k__law_is_heap h_a__law_heap h_l__law_heap h_c__law_heap h_k__law_heap h_a__law_pairs h_l__law_pairs h_c__law_pairs h_k__law_pairs h_a__law_near_pairs h_l__law_near_pairs h_c__law_near_pairs h_k__law_near_pairs h_a__law_must h_l__law_must h_c__law_must h_k__law_must h_a__law_fits h_l__law_fits h_c__law_fits h_k__law_fits h_a_law h_l_law h_c_law h_k_law h_q_GREATEST_KEY h_q_MOST_ARMS h_q_MOST_PLACES h_z_all h_z_any h_z_bool h_z_enumerate h_z_int h_z_isinstance h_z_iter h_z_len h_z_list h_z_max h_z_min h_z_range h_z_reversed h_z_set h_z_sorted h_z_sum h_z_tuple h_z_zip h_pg h_hd h_po_ h_sa h_na_nMany h_na_nArms h_na_nPl h_mk h_kc h_rd h_ga h_pgF h_hdF h_po_F h_saF h_na_fRow h_mkF h_kcF h_kaF h_knF h_ktkF h_kmF h_kclF h_ktyF h_ensF_Crowded h_nesF_Crowded h_pgC h_hdC h_po_C h_saC h_na_cFirst h_na_cLast h_na_cPlaces h_mkC h_kcC h_kaC h_knC h_ktkC h_kmC h_kclC h_ktyC h_ensC_Fitted h_nesC_Fitted (c.em ((Sh.cdA K (Sh.gA K "most_urgent_first")), (He.tabOf K (Sh.cdA K (Sh.gA K "most_urgent_first")))) (by unfold tfs; simp)) (c.hd ((Sh.cdA K (Sh.gA K "most_urgent_first")), (He.tabOf K (Sh.cdA K (Sh.gA K "most_urgent_first")))) (by unfold tfs; simp)) (c.out ((Sh.cdA K (Sh.gA K "most_urgent_first")), (He.tabOf K (Sh.cdA K (Sh.gA K "most_urgent_first")))) (by unfold tfs; simp))
end Tw

open PySem PySem.W PySem.Calls PyProof.Rows in
set_option maxRecDepth 100000 in
set_option maxHeartbeats 0 in
theorem PySem.Challenge.cw_heaprows_k15_whole_bounds_long_holds : PySem.Challenge.rw_heaprows_k15_whole_bounds_long.Holds := by
  w_on; o_law
  refine HandSHeadRun.head_any (r := OpenLaw.row PySem.Challenge.rw_heaprows_k15_whole_bounds_long) (q := view (OpenLaw.row PySem.Challenge.rw_heaprows_k15_whole_bounds_long).prog [55]) (H := Tw.hk) (ob := Sh.obT Tw.adr Tw.fns Tw.exs Tw.tfs) (M := 20000) (loose := Tw.loose) (d := HandSHeadRun.topDef (OpenLaw.row PySem.Challenge.rw_heaprows_k15_whole_bounds_long).prog 55) (kwd := []) (Sh.obT_eq _ _ _ _)
    (by kernel_rfl) (fun s => by kernel_rfl) Tw.run (by kernel_rfl) (by kernel_rfl) (by kernel_rfl) (by rfl) (by first | assumption | decide +kernel) (by decide +kernel) ⟨rfl, rfl, rfl, rfl, rfl, by decide +kernel⟩ ?hw ?hc
  case hw => w_witness2
  case hc =>
    refine LamX.walk_ofTsE (l := PySem.Challenge.rw_heaprows_k15_whole_bounds_long) (n := 63) (k := 18) (x := "script") (CX := fun _ => L2.CX0) rfl (by decide) (by kernel_rfl) ⟨rfl, by decide, by decide⟩ ?F (fun _ _ _ _ _ z => z)
    intro w mg fa h Y G hmg0
    obtain ⟨K, KX, c⟩ := Y
    have hmg : mg ("law" : PySem.Str) = some (.ref fa) := (congrArg mg (show (HandSHeadRun.topDef (OpenLaw.row PySem.Challenge.rw_heaprows_k15_whole_bounds_long).prog 55).name = ("law" : PySem.Str) by kernel_rfl)).symm.trans hmg0
    exact ⟨K, KX, Tw.law_at KX c G hmg⟩
